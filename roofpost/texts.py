"""Letters, wishes and webs as texts, written and read."""

from roofpost.errors import NoText
from roofpost.webs import is_web
from roofpost.wishes import is_letter, is_wish

FIGURES = "0123456789"
MOST_FIGURES = 4


def show_letter(letter):
    return ",".join([str(number) for number in letter])


def show_wish(wish):
    return ",".join([show_pair(pair) for pair in wish])


def show_web(web):
    return " ".join([str(web[0])] + [show_pair(road) for road in web[1]])


def show_pair(pair):
    return "-".join([str(number) for number in pair])


def read_letter(text):
    letter = tuple([read_number(word) for word in text.split(",")])
    if not is_letter(letter):
        raise NoText("it is no letter")
    return letter


def read_wish(text):
    wish = tuple([read_pair(word) for word in text.split(",")])
    if not is_wish(wish):
        raise NoText("it is no wish")
    return wish


def read_web(text):
    words = text.split(" ")
    web = (read_number(words[0]), tuple([read_pair(word) for word in words[1:]]))
    if not is_web(web):
        raise NoText("it is no web")
    return web


def read_pair(text):
    return tuple([read_number(word) for word in text.split("-")])


# Nothing that is written has more figures, and Python reads no number of some thousand of them.
def read_number(text):
    if not 1 <= len(text) <= MOST_FIGURES or any([sign not in FIGURES for sign in text]):
        raise NoText("it is no number of few figures")
    if text[0] == "0" and text != "0":
        raise NoText("a 0 stands ahead")
    return int(text)
