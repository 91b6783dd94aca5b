"""A desk that is told rows of words and answers for a town."""

from roofpost.errors import NoRow, NoText
from roofpost.texts import read_letter, read_number, read_wish, show_web, show_wish
from roofpost.town import Town
from roofpost.webs import MOST_HOUSES
from roofpost.wishes import MOST_FIELDS

FORMS = {
    "town": ("many", "fields", "short"),
    "join": ("number", "number"),
    "cut": ("number", "number"),
    "fall": ("number",),
    "back": ("number",),
    "wish": ("number", "wish"),
    "send": ("number", "letter"),
    "step": ("number", "number"),
    "still": (),
    "heard": ("number", "number"),
    "given": ("number",),
    "roads": (),
    "told": (),
}


class Desk:
    def __init__(self):
        self.town = None

    def say(self, row):
        words = row.split(" ")
        things = things_of(words)
        if words[0] == "town":
            self.town = Town(things[0], things[1], things[2])
            return "ok"
        if self.town is None:
            raise NoRow("there is no town")
        return answered(self.town, words[0], things)


def things_of(words):
    forms = FORMS.get(words[0])
    if forms is None or len(forms) != len(words) - 1:
        raise NoRow("it is no row, by its first word or by how many there are")
    try:
        return [read_as(form, word) for form, word in zip(forms, words[1:])]
    except NoText:
        raise NoRow("a word of it is none that may stand there") from None


def read_as(form, word):
    if form == "wish":
        return read_wish(word)
    if form == "letter":
        return read_letter(word)
    if form == "short":
        return read_short(word)
    if form == "many":
        return read_at_most(word, MOST_HOUSES)
    if form == "fields":
        return read_at_most(word, MOST_FIELDS)
    return read_number(word)


def read_short(word):
    if word not in ("roof", "spare"):
        raise NoText("it is no way to make short")
    return word


def read_at_most(word, most):
    number = read_number(word)
    if not 1 <= number <= most:
        raise NoText(f"it is not from 1 to {most}")
    return number


def answered(town, word, things):
    if word == "join":
        town.join(things[0], things[1])
    elif word == "cut":
        town.cut(things[0], things[1])
    elif word == "fall":
        town.fall(things[0])
    elif word == "back":
        town.back(things[0])
    else:
        return told_by(town, word, things)
    return "ok"


def told_by(town, word, things):
    if word == "wish":
        return str(town.wish(things[0], things[1]))
    if word == "send":
        return str(town.send(things[0], things[1]))
    if word == "step":
        return show_thing(town.step(things[0], things[1]))
    if word == "still":
        return str(steps_till_still(town))
    if word == "heard":
        return " ".join([show_wish(wish) for wish in town.heard(things[0], things[1])]) or "none"
    if word == "given":
        return ",".join([str(number) for number in town.given(things[0])]) or "none"
    if word == "roads":
        return show_web(town.roads())
    return " ".join([str(number) for number in town.counts()])


def show_thing(thing):
    text = str(thing[1]) if thing[0] == "letter" else show_wish(thing[1])
    return " ".join([thing[0], text])


def steps_till_still(town):
    many = 0
    lanes = town.waiting()
    while len(lanes) > 0:
        town.step(lanes[0][0], lanes[0][1])
        many = many + 1
        lanes = town.waiting()
    return many
