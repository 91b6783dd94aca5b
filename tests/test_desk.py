"""Point 23: rows said at a desk, held against a desk and a town that are kept by the document's words; and point 3 there."""

import collections
import unittest

import by_words
from roofpost import errors
from roofpost.desk import Desk
from roofpost.tables import led_by, table_of
from roofpost.town import Town

HOWS = ("roof", "spare")
SIGNS = [chr(number) for number in range(32, 127) if chr(number) != "%"]
# One row of each form, none of which is refused by its words.
FORMS = ("town 3 1 roof", "join 0 1", "cut 0 1", "fall 0", "back 0", "wish 0 0-4", "send 0 3", "step 0 1", "still",
         "heard 0 1", "given 0", "roads", "told")


def answer(desk, row):
    """("told", text), or ("refused", the name of its class)."""
    try:
        return ("told", desk.say(row))
    except by_words.Refused as refusal:
        return ("refused", str(refusal))
    except errors.RoofError as refusal:
        return ("refused", type(refusal).__name__)


def text_of(name, things):
    """The row that says a deed, or asks."""
    return " ".join([name] + [str(thing) if type(thing) in (int, str) else by_words.written(thing) for thing in things])


def all_told(desk, letters):
    """All that a desk tells, but for what it refuses; none of it turns anything."""
    web = by_words.web_of(desk.say("roads"))
    rows = ["roads", "told"] + ["given %d" % number for number in range(letters)]
    rows += ["heard %d %d" % pair for road in web[1] for pair in (road, road[::-1])]
    return {row: desk.say(row) for row in rows}


class Pair:
    """A desk and the one that it is held against, told the same rows."""

    def __init__(self, test, rng):
        self.test, self.rng = test, rng
        self.desk, self.twin = Desk(), by_words.Desk()
        self.letters = 0
        self.seen = collections.Counter()

    def hold(self, row):
        ahead = all_told(self.desk, self.letters) if self.twin.town else None
        told, asked = answer(self.desk, row), answer(self.twin, row)
        self.test.assertEqual(told, asked, row)
        self.test.assertIs(type(told[1]), str, row)
        word = row.split(" ")[0]
        self.seen[word, told[1] if told[0] == "refused" else "done"] += 1
        if told[0] == "told":
            self.letters = 0 if word == "town" else self.letters + (word == "send")
        self.look(ahead if told[0] == "refused" else None)
        return told

    def look(self, ahead=None):
        if self.twin.town:
            now = all_told(self.desk, self.letters)
            self.test.assertEqual(now, all_told(self.twin, self.letters))
            self.test.assertEqual(now, now if ahead is None else ahead)

    def begin(self):
        self.fields = self.rng.randint(1, 3)
        self.most = self.rng.choice((2, 9) if self.fields == 1 else (1, 2))
        self.hold("town %d %d %s" % (self.rng.randint(1, 8), self.fields, self.rng.choice(HOWS)))

    def any_row(self):
        """A row of a deed or of what is asked; now and then one that the town refuses."""
        rng, town = self.rng, self.twin.town
        if rng.random() < 0.25:
            word = rng.choice(("still", "heard", "given", "roads", "told"))
            things = {"heard": 2, "given": 1}.get(word, 0)
            pair = [rng.randint(0, max(town.many, self.letters)) for k in range(things)]
            if word == "heard" and town.roads()[1] and rng.random() < 0.7:
                pair = rng.choice(town.roads()[1])[::rng.choice((1, -1))]
            return text_of(word, pair)
        name, things = by_words.any_deed(rng, town, self.fields, self.most)
        # A number below 0 is none at a desk; that is looked at elsewhere.
        return text_of(name, [abs(thing) if by_words.is_whole(thing) else thing for thing in things])


class Drawn(unittest.TestCase):
    def test_rows_of_any_form(self):
        rng = by_words.dice(111)
        seen = collections.Counter()
        for time in range(150):
            pair = Pair(self, rng)
            for turn in range(rng.choice((1, 1, 2))):
                pair.begin()
                for row in range(rng.choice((20, 50))):
                    pair.hold(pair.any_row())
            seen += pair.seen
        for row in FORMS:
            self.assertGreater(seen[row.split(" ")[0], "done"], 40, row)
        for refusal in ("join NoHouse", "join Ring", "cut NoHouse", "cut NoRoad", "fall NoHouse", "back NoHold",
                        "wish NoHouse", "wish NoKin", "send NoHouse", "send NoKin", "step NoHouse", "step NoRoad",
                        "step NoStep", "heard NoHouse", "heard NoRoad", "given NoLetter"):
            self.assertGreater(seen[tuple(refusal.split(" "))], 3, refusal)
        self.assertEqual([key for key in seen if key[1] == "NoRow"], [])

    def test_beside_a_town_that_is_told_the_same(self):
        rng = by_words.dice(112)
        for time in range(60):
            pair = Pair(self, rng)
            pair.begin()
            town = Town(pair.twin.town.many, pair.fields, pair.twin.town.how)
            for turn in range(40):
                row = pair.any_row()
                word, things = by_words.row_of(row)
                try:
                    told = self.told_by(town, word, things)
                except errors.RoofError as refusal:
                    with self.assertRaises(type(refusal)):
                        pair.desk.say(row)
                else:
                    self.assertEqual(pair.desk.say(row), told)
                answer(pair.twin, row)
                pair.letters = len(pair.twin.town.gifts)

    def told_by(self, town, word, things):
        if word == "still":
            many = 0
            while town.waiting():
                town.step(*town.waiting()[0])
                many += 1
            return str(many)
        return by_words.Desk().answer(word, getattr(town, "counts" if word == "told" else word)(*things))

    def test_two_desks_by_turns(self):
        rng = by_words.dice(113)
        for time in range(15):
            pairs = [Pair(self, rng), Pair(self, rng)]
            for pair in pairs:
                pair.begin()
            for turn in range(40):
                pair = rng.choice(pairs)
                pair.hold(pair.any_row())
                for one in pairs:
                    one.look()

    def test_one_desk_has_no_town_by_another(self):
        one, other = Desk(), Desk()
        one.say("town 2 1 roof")
        with self.assertRaises(errors.NoRow):
            other.say("roads")


class Without(unittest.TestCase):
    def test_no_town_by_now(self):
        for row in FORMS[1:]:
            desk = Desk()
            for turn in range(2):
                with self.assertRaises(errors.NoRow) as seen:
                    desk.say(row)
                self.assertIs(type(seen.exception), errors.NoRow)
            self.assertEqual(desk.say("town 2 1 spare"), "ok")
            self.assertEqual((desk.say("roads"), desk.say("told")), ("2", "0 0"))

    def test_a_town_that_is_refused_is_none(self):
        for row in ("town", "town 0 1 roof", "town 9 1 roof", "town 2 0 roof", "town 2 4 roof", "town 2 1", "town 2 1 Roof",
                    "town 2 1 roofs", "town 02 1 roof", "town 2 01 roof", "town 2 1 roof spare", "town 2 1 roof "):
            desk = Desk()
            with self.assertRaises(errors.NoRow):
                desk.say(row)
            with self.assertRaises(errors.NoRow):
                desk.say("roads")
            desk.say("town 3 1 roof")
            desk.say("join 0 1")
            with self.assertRaises(errors.NoRow):
                desk.say(row)
            self.assertEqual(desk.say("roads"), "3 0-1")

    def test_a_town_told_anew(self):
        desk = Desk()
        for row in ("town 3 1 roof", "join 0 1", "wish 0 0-4", "still", "send 1 3"):
            desk.say(row)
        self.assertEqual([desk.say(row) for row in ("town 5 2 spare", "roads", "told", "still")], ["ok", "5", "0 0", "0"])
        self.assertEqual(desk.say("wish 0 0-4,1-1"), "0")
        self.assertEqual(desk.say("send 0 3,1"), "0")
        for row, error in (("wish 0 0-4", errors.NoKin), ("back 1", errors.NoHold), ("given 1", errors.NoLetter)):
            with self.assertRaises(error):
                desk.say(row)


class ByHand(unittest.TestCase):
    def said(self, text):
        desk = Desk()
        for row, asked in [part.split(": ") for part in text.strip().split("\n")]:
            self.assertEqual(desk.say(row.strip()), asked, row)

    def test_answers(self):
        self.said("""town 4 1 roof: ok
            join 1 0: ok
            join 1 2: ok
            roads: 4 0-1 1-2
            heard 0 1: none
            wish 2 5-9: 0
            wish 2 0-4: 1
            wish 1 3-3: 2
            told: 4 0
            step 2 1: more 5-9
            still: 6
            heard 0 1: 0-4 5-9
            send 0 3: 0
            given 0: none
            step 0 1: letter 0
            given 0: 2
            step 1 2: letter 0
            given 0: 1,2
            send 0 7: 1
            still: 2
            given 1: 0
            back 1: ok
            step 2 1: less 0-4
            fall 2: ok
            roads: 4 0-1
            cut 0 1: ok
            roads: 4
            told: 11 4""")

    def test_many_fields(self):
        self.said("""town 2 3 spare: ok
            join 0 1: ok
            wish 1 0-4,0-9,0-0: 0
            wish 1 5-9,0-9,0-0: 1
            wish 1 3-6,2-2,0-0: 2
            still: 2
            heard 0 1: 0-4,0-9,0-0 5-9,0-9,0-0
            send 0 4,2,0: 0
            still: 1
            given 0: 0,2
            send 0 4,2,1: 1
            still: 0
            given 1: none""")

    def test_still_goes_by_the_first_road(self):
        # All that 0 tells comes ahead of what 1 tells, so 4 never hears of 4-4, which 4-5 covers by then.
        self.said("""town 5 1 roof: ok
            join 2 4: ok
            join 2 0: ok
            join 2 1: ok
            wish 1 4-4: 0
            wish 0 5-5: 1
            wish 0 4-5: 2
            still: 11
            heard 4 2: 4-5
            told: 11 0""")

    def test_numbers_of_two_figures(self):
        desk = Desk()
        desk.say("town 2 1 roof")
        self.assertEqual([desk.say("wish 0 3-3") for k in range(12)], [str(k) for k in range(12)])
        self.assertEqual([desk.say("send 0 3") for k in range(12)], [str(k) for k in range(12)])
        self.assertEqual(desk.say("given 11"), ",".join(str(k) for k in range(12)))
        self.assertEqual((desk.say("back 10"), desk.say("send 0 3")), ("ok", "12"))
        self.assertEqual(desk.say("given 12"), "0,1,2,3,4,5,6,7,8,9,11")


class Words(unittest.TestCase):
    """Rows that are none by their words."""

    def setUp(self):
        self.pair = Pair(self, by_words.dice(114))
        for row in ("town 4 1 roof", "join 0 1", "join 1 2", "wish 2 0-4", "wish 0 2-7", "still", "send 0 3", "wish 1 3-3"):
            self.pair.hold(row)

    def none(self, row):
        self.assertEqual(self.pair.hold(row), ("refused", "NoRow"), row)

    def test_by_hand(self):
        for row in ("", " ", "town", "Town 3 1 roof", "towns 3 1 roof", "join", "join 0", "join 0 1 2", "join 0  3", "join 0 3 ",
                    " join 0 3", "join  0 3", "join 00 3", "join 03 0", "join 0 03", "join -1 0", "join +1 0", "join a b",
                    "join 0,3", "join 0-3", "join 10000 0", "join 0 99999", "cut 0", "cut 0 1 1", "fall", "fall 0 1", "fall -1",
                    "fall 00000", "back", "back -1", "back 00", "back 0 0", "back 0-4", "wish 0", "wish 0-4", "wish 0 5",
                    "wish 0 4-0", "wish 0 0-10", "wish 0 0-4 ", "wish 0 0-4, 1-1", "wish 0 0-4 1-1", "wish 0 00-4",
                    "wish 0 0-4,", "wish 12345 0-4", "wish 0 1-1,1-1,1-1,1-1", "send 0", "send 0 10", "send 0 03",
                    "send 0 0-4", "send 0 3,", "send 0 3 3", "send 0 3,3,3,3", "send 0 ", "step", "step 0", "step 0 1 2",
                    "still 0", "still ", "Still", "still still", "heard 0", "heard 0 1 2", "heard", "given", "given 0 1",
                    "given 00", "given 0,1", "roads 0", "roads ", "told 0", "told told", "holds", "log 0", "waiting",
                    "under_way 0 1", "counts", "many", "number", "letter 0 1", "9" * 5000, "back " + "9" * 5000,
                    "join 0 " + "0" * 5000, "wish 0 " + "9" * 5000 + "-9", "say roads", "roads;told", "roads,told"):
            self.none(row)

    def test_numbers_of_four_figures_are_numbers(self):
        for row, error in (("join 9999 0", "NoHouse"), ("fall 1000", "NoHouse"), ("back 9999", "NoHold"),
                           ("given 1234", "NoLetter"), ("wish 9999 0-4", "NoHouse"), ("send 4 3", "NoHouse"),
                           ("heard 0 4", "NoHouse"), ("step 9999 9999", "NoHouse"), ("cut 0 2", "NoRoad")):
            self.assertEqual(self.pair.hold(row), ("refused", error), row)

    def test_a_wish_or_letter_by_its_text_though_not_the_towns(self):
        for row, error in (("wish 0 0-4,1-1", "NoKin"), ("send 0 3,3", "NoKin"), ("send 0 3,3,3", "NoKin"),
                           ("wish 9 0-4,1-1", "NoHouse"), ("send 9 3,3", "NoHouse")):
            self.assertEqual(self.pair.hold(row), ("refused", error), row)

    def test_any_sign_put_in_left_out_or_exchanged(self):
        kept = collections.Counter()
        for row in FORMS[1:]:
            for place in range(len(row) + 1):
                near = {row[:place] + sign + row[place:] for sign in SIGNS}
                near |= {row[:place] + sign + row[place + 1:] for sign in SIGNS}
                near |= {row[:place] + row[place + 1:], row[:place] + row[place:place + 1] * 2 + row[place + 1:]}
                for one in sorted(near):
                    if by_words.row_of(one) is None:
                        self.refused_at_once(one)
                    kept[by_words.row_of(one) is None] += 1
            self.pair.look()
        self.assertGreater(kept[True], 5000)
        self.assertGreater(kept[False], 300)

    def refused_at_once(self, row):
        # All that is told is looked over now and then only, since it takes its time.
        self.assertEqual(answer(self.pair.desk, row), ("refused", "NoRow"), row)

    def test_rows_that_are_bent_while_a_town_goes_on(self):
        rng = by_words.dice(115)
        seen = collections.Counter()
        for time in range(40):
            pair = Pair(self, rng)
            pair.begin()
            for turn in range(40):
                pair.hold(self.bent(rng, pair.any_row()) if rng.random() < 0.5 else pair.any_row())
                if pair.twin.town.fields != pair.fields:
                    pair.fields, pair.most = pair.twin.town.fields, 2
            seen.update(key[1] for key in pair.seen.elements())
        self.assertGreater(seen["NoRow"], 300)
        self.assertGreater(seen["done"], 500)

    def bent(self, rng, row):
        words = row.split(" ")
        place, at = rng.randrange(len(words)), rng.randrange(len(row) + 1)
        other = rng.choice(" ".join(FORMS).split(" ") + ["10", "999", "9999", "10000", "00", "01", "0-4,1-1", "3,3", ""])
        signs = "0123456789,- " if rng.random() < 0.7 else "".join(SIGNS)
        return rng.choice((
            " ".join(words[:place] + words[place + 1:]), " ".join(words[:place] + [other] + words[place:]),
            " ".join(words[:place] + [other] + words[place + 1:]), " ".join(words[:place + 1] + words[place:]),
            " ".join(rng.sample(words, len(words))), row[:at] + rng.choice(signs) + row[at:], row[:at] + row[at + 1:],
            row[:at] + rng.choice(signs) + row[at + 1:], row + " ", " " + row))


class Still(unittest.TestCase):
    """Point 3 at a desk: what is heard behind still, and where a letter goes."""

    def drawn(self, rng):
        pair = Pair(self, rng)
        pair.begin()
        for turn in range(rng.choice((15, 40, 80))):
            row = pair.any_row()
            self.assertEqual(answer(pair.desk, row), answer(pair.twin, row))
        self.assertEqual(pair.desk.say("still"), pair.twin.say("still"))
        self.assertEqual(pair.desk.say("still"), "0")
        return pair.desk, pair.twin.town, pair

    def test_heard_is_what_the_table_tells(self):
        rng = by_words.dice(116)
        told = 0
        for time in range(150):
            desk, town, pair = self.drawn(rng)
            holds = [(house, wish) for number, house, wish in town.holds()]
            web = by_words.web_of(desk.say("roads"))
            self.assertEqual(web, town.roads())
            for road in web[1]:
                for house, other in (road, road[::-1]):
                    asked = [by_words.written(wish) for wish in table_of(web, holds, town.how, house, other)]
                    self.assertEqual(desk.say("heard %d %d" % (house, other)), " ".join(asked) or "none")
                    told += len(asked) > 1
        self.assertGreater(told, 50)

    def test_a_letter_goes_where_it_is_led(self):
        rng = by_words.dice(117)
        far = 0
        for time in range(150):
            desk, town, pair = self.drawn(rng)
            holds = [(house, wish) for number, house, wish in town.holds()]
            numbers = [number for number, house, wish in town.holds()]
            for turn in range(3):
                house, letter = rng.randrange(town.many), by_words.any_letter(rng, pair.fields, 0, pair.most)
                roads, given = led_by(town.roads(), holds, town.how, house, letter)
                ahead = [int(word) for word in desk.say("told").split(" ")]
                number = desk.say("send %d %s" % (house, by_words.written(letter)))
                self.assertEqual(desk.say("still"), str(len(roads)))
                asked = ",".join(str(numbers[k]) for k in given) or "none"
                self.assertEqual(desk.say("given " + number), asked)
                self.assertEqual(desk.say("told"), "%d %d" % (ahead[0], ahead[1] + len(roads)))
                far += len(roads) > 1
        self.assertGreater(far, 50)


if __name__ == "__main__":
    unittest.main()
