"""The words of the document, gone through letter by letter and house by house, to hold the program against.

Nothing here is taken from the program, so that a fault in it can't hide itself.
"""

import functools
import itertools
import random
import re


@functools.lru_cache(maxsize=None)
def letters(wish):
    return sorted(itertools.product(*[range(low, high + 1) for low, high in wish]))


def has(wish, letter):
    return all(number in range(low, high + 1) for (low, high), number in zip(wish, letter))


def covers(one, other):
    return all(has(one, letter) for letter in letters(other))


def left(wishes, wish):
    """The letters of the wish that none of the wishes has, rising."""
    return [letter for letter in letters(wish) if not any(has(one, letter) for one in wishes)]


def roof(wishes):
    return [wish for wish in sorted(set(wishes))
            if not any(one != wish and covers(one, wish) for one in wishes)]


def spare(wishes):
    out = []
    whole = roof(wishes)
    for wish in whole:
        rest = [one for one in whole if one not in out and one != wish]
        if left(rest, wish) == []:
            out.append(wish)
    return [wish for wish in whole if wish not in out]


@functools.lru_cache(maxsize=None)
def made_short(how, wishes):
    return {"roof": roof, "spare": spare}[how](sorted(wishes))


def short(how, wishes):
    """Neither way looks at the order or at what stands twice, so one set of wishes is gone through once."""
    return list(made_short(how, frozenset(wishes)))


def is_whole(thing):
    return type(thing) is int


def is_right_tree(wishes, part, tree):
    """Point 7, its form too: a told tree has to be made of tuples, texts and whole numbers."""
    if type(tree) is not tuple or type(tree[0]) is not str:
        return False
    if tree[0] == "by":
        return (len(tree) == 2 and is_whole(tree[1]) and tree[1] in range(len(wishes))
                and covers(wishes[tree[1]], part))
    if tree[0] != "cut" or len(tree) != 5 or not is_whole(tree[1]) or not is_whole(tree[2]):
        return False
    field, at = tree[1], tree[2]
    if field not in range(len(part)):
        return False
    low, high = part[field]
    if at < low or at >= high:
        return False
    one, other = list(part), list(part)
    one[field] = (low, at)
    other[field] = (at + 1, high)
    return (is_right_tree(wishes, tuple(one), tree[3])
            and is_right_tree(wishes, tuple(other), tree[4]))


def fewest(wishes):
    """How many wishes of the roof are needed, all choices of them tried."""
    whole = roof(wishes)
    for many in range(len(whole) + 1):
        if any(all(left(some, wish) == [] for wish in wishes) for some in itertools.combinations(whole, many)):
            return many


def is_right_fewest(wishes, thing):
    number, some, tree = thing
    whole = roof(wishes)
    return (all(wish in whole for wish in some) and all(one < other for one, other in zip(some, some[1:]))
            and len(some) == number and all(left(some, wish) == [] for wish in wishes)
            and shows(wishes, whole, [], tree, number - 1))


def shows(wishes, whole, chosen, tree, choices):
    if type(tree) is not tuple or choices < 0 or len(tree) != (2 if choices == 0 else 3):
        return False
    word, letter = tree[:2]
    if type(letter) is not tuple or not all(is_whole(number) for number in letter):
        return False
    if not any(has(wish, letter) for wish in wishes) or any(has(wish, letter) for wish in chosen):
        return False
    if choices == 0:
        return word == "left"
    owners = [wish for wish in whole if has(wish, letter)]
    return (word == "meet" and type(tree[2]) is list and len(tree[2]) == len(owners)
            and all(shows(wishes, whole, chosen + [wish], twig, choices - 1)
                    for wish, twig in zip(owners, tree[2])))


def is_web(thing):
    if type(thing) is not tuple or len(thing) != 2 or not is_whole(thing[0]) or thing[0] not in range(1, 9):
        return False
    many, roads = thing
    if type(roads) is not tuple:
        return False
    for road in roads:
        if type(road) is not tuple or len(road) != 2 or not all(is_whole(house) for house in road):
            return False
        if not all(house in range(many) for house in road) or not road[0] < road[1]:
            return False
    return all(one < other for one, other in zip(roads, roads[1:])) and not has_ring(roads)


def has_ring(roads):
    """Roads to houses that have no other road are taken off, again and again: a ring has none such."""
    roads = list(roads)
    while roads:
        ends = [house for road in roads for house in road]
        stay = [road for road in roads if all(ends.count(house) > 1 for house in road)]
        if stay == roads:
            return True
        roads = stay
    return False


FAR = 99


@functools.lru_cache(maxsize=None)
def steps(web):
    """How many roads lie between any two houses, FAR where there is no way."""
    many, roads = web
    far = {(one, other): 0 if one == other else FAR for one in range(many) for other in range(many)}
    for one, other in roads:
        far[one, other] = far[other, one] = 1
    for midst, one, other in itertools.product(range(many), repeat=3):
        far[one, other] = min(far[one, other], far[one, midst] + far[midst, other])
    return far


def neighbours(web, house):
    return [other for other in range(web[0]) if steps(web)[house, other] == 1]


def way(web, one, other):
    far = steps(web)
    if far[one, other] >= FAR:
        return None
    on_it = [house for house in range(web[0]) if far[one, house] + far[house, other] == far[one, other]]
    return sorted(on_it, key=lambda house: far[one, house])


def behind(web, house, neighbour):
    far = steps(web)
    return [other for other in range(web[0]) if far[house, other] == far[neighbour, other] + 1 < FAR]


def tables(web, holds, how):
    """What is told from house to house, begun with nothing and told again till nothing turns: (to, from) each."""
    heard = {(one, other): [] for road in web[1] for one, other in (road, road[::-1])}
    while True:
        ahead = dict(heard)
        for house, teller in heard:
            wishes = [wish for home, wish in holds if home == teller]
            for other in neighbours(web, teller):
                if other != house:
                    wishes += ahead[teller, other]
            heard[house, teller] = short(how, wishes)
        if heard == ahead:
            return heard


def led(web, holds, how, house, letter):
    heard = tables(web, holds, how)
    roads, ends = [], [(None, house)]
    for came, here in ends:
        for other in neighbours(web, here):
            if other != came and any(has(wish, letter) for wish in heard[here, other]):
                roads.append((here, other))
                ends.append((here, other))
    homes = [here for came, here in ends]
    given = [number for number, (home, wish) in enumerate(holds) if home in homes and has(wish, letter)]
    return (sorted(roads), given)


def chain(web, holds, how, house, letter, number):
    roads, given = led(web, holds, how, house, letter)
    if number not in given:
        return None
    heard = tables(web, holds, how)
    behind_it = [road for road in roads if holds[number][0] in behind(web, *road)]
    return [(one, other, min(wish for wish in heard[one, other] if has(wish, letter)))
            for one, other in sorted(behind_it, key=lambda road: steps(web)[house, road[0]])]


class Refused(Exception):
    """A refusal, by the name of its class."""


class Town:
    """Points 14 to 19: a town that is kept road by road and hold by hold, none of it in a house."""

    def __init__(self, many, fields, how):
        self.many, self.fields, self.how = many, fields, how
        self.road_list, self.hold_list = [], []
        self.heard_sets, self.told_sets, self.lanes = {}, {}, {}
        self.had, self.gifts, self.tallies = set(), [], [0, 0]
        self.logs = {house: [] for house in range(many)}

    def need(self, truth, name):
        if not truth:
            raise Refused(name)

    def need_houses(self, *houses):
        self.need(all(house in range(self.many) for house in houses), "NoHouse")

    def need_road(self, one, other):
        self.need_houses(one, other)
        self.need((min(one, other), max(one, other)) in self.road_list, "NoRoad")

    def web(self):
        return (self.many, tuple(sorted(self.road_list)))

    def tell(self, house, other, thing):
        self.lanes[house, other].append(thing)
        self.tallies[thing[0] == "letter"] += 1
        self.logs[house].append(("tell", other, thing))

    def retell(self, house):
        for other in neighbours(self.web(), house):
            wishes = [wish for number, home, wish in self.hold_list if home == house]
            for third in neighbours(self.web(), house):
                wishes += self.heard_sets[house, third] if third != other else []
            due, ahead = short(self.how, wishes), self.told_sets[house, other]
            for word, some in (("more", set(due) - set(ahead)), ("less", set(ahead) - set(due))):
                for wish in sorted(some):
                    self.tell(house, other, (word, wish))
            self.told_sets[house, other] = due

    def put(self, house, came, number, letter):
        if (house, number) in self.had:
            return
        self.had.add((house, number))
        lucky = [hold for hold, home, wish in self.hold_list if home == house and has(wish, letter)]
        self.gifts[number] += lucky
        self.logs[house].append(("give", number, tuple(sorted(lucky))))
        for other in neighbours(self.web(), house):
            if other != came and any(has(wish, letter) for wish in self.heard_sets[house, other]):
                self.tell(house, other, ("letter", number, letter))

    def join(self, one, other):
        self.need_houses(one, other)
        self.need(way(self.web(), one, other) is None, "Ring")
        self.road_list.append((min(one, other), max(one, other)))
        for house, third in ((one, other), (other, one)):
            self.heard_sets[house, third], self.told_sets[house, third], self.lanes[house, third] = set(), [], []
            self.logs[house].append(("join", third))
        for house in (one, other):
            self.retell(house)

    def part(self, one, other):
        self.road_list.remove((min(one, other), max(one, other)))
        for pair in ((one, other), (other, one)):
            del self.heard_sets[pair], self.told_sets[pair], self.lanes[pair]

    def cut(self, one, other):
        self.need_road(one, other)
        self.part(one, other)
        for house, third in ((one, other), (other, one)):
            self.logs[house].append(("cut", third))
            self.retell(house)

    def fall(self, house):
        self.need_houses(house)
        ahead = neighbours(self.web(), house)
        for other in ahead:
            self.part(house, other)
        self.hold_list = [hold if hold[1] != house else (None, None, None) for hold in self.hold_list]
        self.had = {pair for pair in self.had if pair[0] != house}
        self.logs[house] = []
        for other in ahead:
            self.logs[other].append(("cut", house))
            self.retell(other)

    def wish(self, house, wish):
        self.need_houses(house)
        self.need(len(wish) == self.fields, "NoKin")
        number = len(self.hold_list)
        self.hold_list.append((number, house, wish))
        self.logs[house].append(("wish", number, wish))
        self.retell(house)
        return number

    def back(self, number):
        self.need(number in [hold[0] for hold in self.hold_list], "NoHold")
        house = self.hold_list[number][1]
        self.hold_list[number] = (None, None, None)
        self.logs[house].append(("back", number))
        self.retell(house)

    def send(self, house, letter):
        self.need_houses(house)
        self.need(len(letter) == self.fields, "NoKin")
        number = len(self.gifts)
        self.gifts.append([])
        self.logs[house].append(("send", number, letter))
        self.put(house, None, number, letter)
        return number

    def step(self, one, other):
        self.need_road(one, other)
        self.need(self.lanes[one, other] != [], "NoStep")
        thing, *self.lanes[one, other] = self.lanes[one, other]
        self.logs[other].append(("come", one, thing))
        if thing[0] == "letter":
            self.put(other, one, *thing[1:])
        else:
            heard = self.heard_sets[other, one]
            heard.add(thing[1]) if thing[0] == "more" else heard.remove(thing[1])
            self.retell(other)
        return thing

    def roads(self):
        return self.web()

    def holds(self):
        return [hold for hold in self.hold_list if hold[0] is not None]

    def heard(self, house, neighbour):
        self.need_road(house, neighbour)
        return sorted(self.heard_sets[house, neighbour])

    def under_way(self, one, other):
        self.need_road(one, other)
        return list(self.lanes[one, other])

    def waiting(self):
        return sorted(pair for pair, things in self.lanes.items() if things)

    def given(self, number):
        self.need(number in range(len(self.gifts)), "NoLetter")
        return sorted(self.gifts[number])

    def counts(self):
        return tuple(self.tallies)

    def log(self, house):
        self.need_houses(house)
        return list(self.logs[house])


# Points 19 and 20: what a log says of its house is read off its rows anew each time, nothing is kept.
DEED_ROWS = ("wish", "back", "join", "cut", "send", "come")


def since_join(rows, house):
    """The rows since the house was joined last, or None where it is no neighbour."""
    turns = [place for place, row in enumerate(rows) if row in (("join", house), ("cut", house))]
    return rows[turns[-1]:] if turns and rows[turns[-1]][0] == "join" else None


def neighbours_in(rows):
    return [house for house in sorted({row[1] for row in rows if row[0] == "join"})
            if since_join(rows, house) is not None]


def wishes_over(rows, word, house):
    """What has come from ("come"), or was told to ("tell"), a neighbour, and wasn't taken back."""
    stand = []
    for row in since_join(rows, house):
        if row[:2] == (word, house) and row[2][0] == "more":
            stand.append(row[2][1])
        elif row[:2] == (word, house) and row[2][0] == "less":
            stand.remove(row[2][1])
    return stand


def own_in(rows):
    backs = [row[1] for row in rows if row[0] == "back"]
    return {row[1]: row[2] for row in rows if row[0] == "wish" and row[1] not in backs}


def letters_in(rows):
    """Each (number, letter) that was sent from the house, or came there."""
    return [row[1:] for row in rows if row[0] == "send"] + [
        row[2][1:] for row in rows if row[0] == "come" and row[2][0] == "letter"]


def asked_by(how, rows):
    """All that is to be done by the deed that stands last."""
    deed = rows[-1]
    near = neighbours_in(rows)
    heard = {house: wishes_over(rows, "come", house) for house in near}
    if letters_in([deed]):
        (number, letter), came = letters_in([deed])[0], deed[1] if deed[0] == "come" else None
        if number in [one for one, other in letters_in(rows[:-1])]:
            return []
        lucky = sorted(hold for hold, wish in own_in(rows).items() if has(wish, letter))
        return [("give", number, tuple(lucky))] + [
            ("tell", house, ("letter", number, letter)) for house in near
            if house != came and any(has(wish, letter) for wish in heard[house])]
    asked = []
    for house in near:
        due = set(short(how, list(own_in(rows).values())
                        + [wish for other in near if other != house for wish in heard[other]]))
        told = set(wishes_over(rows, "tell", house))
        asked += [("tell", house, ("more", wish)) for wish in sorted(due - told)]
        asked += [("tell", house, ("less", wish)) for wish in sorted(told - due)]
    return asked


def to_do(how, rows):
    """All that is still to be done behind rows that are so."""
    deeds = [place for place, row in enumerate(rows) if row[0] in DEED_ROWS]
    return asked_by(how, rows[:deeds[-1] + 1])[len(rows) - deeds[-1] - 1:] if deeds else []


def fault(how, rows, row):
    """Why a row behind rows that are so isn't so itself, or None."""
    asked = to_do(how, rows)
    if row[0] not in DEED_ROWS:
        return None if asked[:1] == [row] else "not what is to be done"
    if asked:
        return "a deed too early"
    word, number = row[:2]
    if word == "wish":
        return "wished ahead" if number in [one[1] for one in rows if one[0] == "wish"] else None
    if word == "back":
        return None if number in own_in(rows) else "no hold"
    if word == "send":
        return "sent ahead" if number in [one for one, letter in letters_in(rows)] else None
    is_near = since_join(rows, number) is not None
    if word == "join":
        return "joined ahead" if is_near else None
    if not is_near:
        return word + " of no neighbour"
    return fault_of_thing(rows, number, row[2]) if word == "come" else None


def fault_of_thing(rows, house, thing):
    if thing[0] == "letter":
        stood = [letter for number, letter in letters_in(rows) if number == thing[1]]
        return "another letter" if any(letter != thing[2] for letter in stood) else None
    is_heard = thing[1] in wishes_over(rows, "come", house)
    if thing[0] == "more":
        return "heard ahead" if is_heard else None
    return None if is_heard else "not heard"


def judge(how, log):
    """(number, why) of the first row that isn't so, or (None, None)."""
    for number, row in enumerate(log):
        why = fault(how, log[:number], row)
        if why is not None:
            return (number, why)
    return (None, None)


# Point 21.
def runs(numbers):
    """The greatest rows of neighbouring numbers, (low, high) each."""
    rows = []
    for number in sorted(numbers):
        if rows and rows[-1][1] == number - 1:
            rows[-1] = (rows[-1][0], number)
        else:
            rows.append((number, number))
    return rows


def numbers_in(stretches, counts):
    return {number for number in range(len(counts)) if any(number in range(low, high + 1) for low, high in stretches)}


def gap_weights(stretches, counts):
    had = numbers_in(stretches, counts)
    free = runs(set(range(min(had), max(had))) - had)
    return [sum(counts[number] for number in range(low, high + 1)) for low, high in free]


def least_needless(stretches, many, counts):
    """All choices of gaps that are left out."""
    weights = gap_weights(stretches, counts)
    return min(sum(weights) - sum(some) for size in range(min(many - 1, len(weights)) + 1)
               for some in itertools.combinations(weights, size))


def is_right_mark(stretches, many, counts, needless, mark):
    weights = gap_weights(stretches, counts)
    return mark >= 0 and needless == sum(min(weight, mark) for weight in weights) - (many - 1) * mark


def is_right_few(stretches, many, counts, thing):
    needless, some, mark = thing
    if len(some) > many or any(high >= low for (left_one, high), (low, right_one) in zip(some, some[1:])):
        return False
    if not all(low <= high and low >= 0 and high <= len(counts) - 1 for low, high in some):
        return False
    asked, had = numbers_in(stretches, counts), numbers_in(some, counts)
    return (asked <= had and needless == sum(counts[number] for number in had - asked)
            and is_right_mark(stretches, many, counts, needless, mark))


# Points 22 and 23.
NUMBER = "0|[1-9][0-9]{0,3}"
LETTER = "[0-9](?:,[0-9]){0,2}"
WISH = "[0-9]-[0-9](?:,[0-9]-[0-9]){0,2}"
WEB = "[1-8](?: [0-7]-[0-7])*"


def pairs_in(text):
    return tuple((int(low), int(high)) for low, high in re.findall("([0-9])-([0-9])", text))


def letter_of(text):
    """The letter that is written, or None; likewise the next two."""
    return tuple(int(sign) for sign in text[::2]) if re.fullmatch(LETTER, text) else None


def wish_of(text):
    is_one = re.fullmatch(WISH, text) and all(low <= high for low, high in pairs_in(text))
    return pairs_in(text) if is_one else None


def web_of(text):
    web = (int(text[0]), pairs_in(text)) if re.fullmatch(WEB, text) else None
    return web if is_web(web) else None


def written(thing):
    """A letter, a wish or a web as a text."""
    if is_web(thing):
        return str(thing[0]) + "".join(" %d-%d" % road for road in thing[1])
    return ",".join("%d" % one if is_whole(one) else "%d-%d" % one for one in thing)


ROWS = {
    "town": "town ([1-8]) ([1-3]) (roof|spare)", "join": "join (N) (N)", "cut": "cut (N) (N)", "fall": "fall (N)",
    "back": "back (N)", "wish": f"wish (N) ({WISH})", "send": f"send (N) ({LETTER})", "step": "step (N) (N)",
    "still": "still", "heard": "heard (N) (N)", "given": "given (N)", "roads": "roads", "told": "told",
}


def row_of(text):
    """(word, things) that a row says, or None where it is none by its words."""
    for word, form in ROWS.items():
        found = re.fullmatch(form.replace("N", NUMBER), text)
        if found:
            things = [thing_of(word, place, part) for place, part in enumerate(found.groups())]
            return None if None in things else (word, tuple(things))
    return None


def thing_of(word, place, part):
    if (word, place) == ("wish", 1):
        return wish_of(part)
    if (word, place) == ("send", 1):
        return letter_of(part)
    return part if (word, place) == ("town", 2) else int(part)


class Desk:
    """Point 23, over the town that is kept by the document's words."""

    def __init__(self):
        self.town = None

    def say(self, text):
        said = row_of(text)
        if said is None or (self.town is None and said[0] != "town"):
            raise Refused("NoRow")
        word, things = said
        if word == "town":
            self.town = Town(*things)
            return "ok"
        if word == "still":
            return str(self.still())
        told = getattr(self.town, "counts" if word == "told" else word)(*things)
        return self.answer(word, told)

    def still(self):
        many = 0
        while self.town.waiting():
            self.town.step(*self.town.waiting()[0])
            many += 1
        return many

    def answer(self, word, told):
        if word in ("join", "cut", "fall", "back"):
            return "ok"
        if word in ("wish", "send"):
            return "%d" % told
        if word == "step":
            return told[0] + " " + (written(told[1]) if told[0] != "letter" else "%d" % told[1])
        if word == "roads":
            return written(told)
        if word == "told":
            return "%d %d" % told
        texts = [written(one) if word == "heard" else "%d" % one for one in told]
        return (" " if word == "heard" else ",").join(texts) if texts else "none"


def dice(seed):
    """A source of inputs that is the same at each run."""
    return random.Random(seed)


def any_wish(rng, fields, least=0, most=9):
    return tuple(tuple(sorted((rng.randint(least, most), rng.randint(least, most))))
                 for field in range(fields))


def any_wishes(rng, fields, many, least=0, most=9):
    return [any_wish(rng, fields, least, most) for k in range(many)]


def any_letter(rng, fields, least=0, most=9):
    return tuple(rng.randint(least, most) for field in range(fields))


def any_web(rng, many, odds=0.8):
    """Houses in any order, each with a road to one ahead of it, or with none."""
    order = list(range(many))
    rng.shuffle(order)
    roads = [tuple(sorted((order[k], order[rng.randrange(k)]))) for k in range(1, many) if rng.random() < odds]
    return (many, tuple(sorted(roads)))


def any_house(rng, many, odds=0.03):
    """A house, or now and then a number that is none."""
    return rng.choice((-1, many, many + 1, -many)) if rng.random() < odds else rng.randrange(many)


DEEDS = ("join", "cut", "fall", "wish", "back", "send", "step")


def any_deed(rng, town, fields, most, words=DEEDS):
    """A deed in a town as it stands, (name, arguments); now and then one that is refused."""
    many, roads = town.roads()
    wild = rng.random() < 0.1
    odd = rng.choice((1, 2, 3)) if wild else fields
    weights = {"join": 12, "cut": 3, "fall": 1, "wish": 8, "back": 4, "send": 5, "step": 26}
    if not town.waiting() and not wild:
        words = [one for one in words if one != "step"]
    word = rng.choices(words, [weights[one] for one in words])[0]
    pair = (any_house(rng, many), any_house(rng, many))
    parted = [ends for ends, far in steps((many, roads)).items() if far >= FAR]
    if word == "join" and parted and not wild:
        pair = rng.choice(parted)
    if word == "cut" and roads and not wild:
        pair = rng.choice(roads)[::rng.choice((1, -1))]
    if word == "step" and town.waiting() and not wild:
        pair = rng.choice(town.waiting())
    if word in ("join", "cut", "step"):
        return (word, pair)
    if word == "back":
        standing = [hold[0] for hold in town.holds()]
        return (word, (rng.choice(standing) if standing and not wild else rng.randint(-2, 9),))
    if word == "fall":
        return (word, pair[:1])
    draw = any_wish if word == "wish" else any_letter
    return (word, (pair[0], draw(rng, odd, 0, most)))


def lists_in(thing):
    """All lists within a thing, itself, too."""
    parts = [part for one in thing for part in lists_in(one)] if isinstance(thing, (list, tuple)) else []
    return ([thing] if isinstance(thing, list) else []) + parts


def parts_of(rng, wish, times):
    """Wishes that together have just the letters of the wish: it is cut again and again."""
    parts = [wish]
    for time in range(times):
        part = parts.pop(rng.randrange(len(parts)))
        wide = [field for field, (low, high) in enumerate(part) if low < high]
        if not wide:
            parts.append(part)
            continue
        field = rng.choice(wide)
        low, high = part[field]
        at = rng.randint(low, high - 1)
        parts.append(part[:field] + ((low, at),) + part[field + 1:])
        parts.append(part[:field] + ((at + 1, high),) + part[field + 1:])
    rng.shuffle(parts)
    return parts
