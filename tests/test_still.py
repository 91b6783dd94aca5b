"""Point 3: what holds of a town when nothing is under way, whatever came ahead and whatever is done meanwhile."""

import unittest

import by_words
from roofpost.errors import RoofError
from roofpost.tables import led_by, table_of
from roofpost.town import Town

HOWS = ("roof", "spare")


class Drawn:
    """A town led through drawn deeds, with an eye on each letter that is given."""

    def __init__(self, rng):
        self.rng = rng
        self.many = rng.randint(1, 8)
        self.fields = rng.randint(1, 3)
        self.most = rng.choice((2, 9) if self.fields == 1 else (1, 2))
        self.how = rng.choice(HOWS)
        self.town = Town(self.many, self.fields, self.how)
        self.wishes = {}
        self.gives = []

    def deed(self, words=by_words.DEEDS):
        """A drawn deed, done where it isn't refused; told is (name, arguments), or None."""
        name, things = by_words.any_deed(self.rng, self.town, self.fields, self.most, words)
        try:
            told = getattr(self.town, name)(*things)
        except RoofError:
            return None
        if name == "wish":
            self.wishes[told] = things[1]
        if name in ("send", "step"):
            self.look(things[0] if name == "send" else things[1])
        return (name, things)

    def look(self, house):
        """Writes down what was given in the house by its last deed."""
        for row in reversed(self.town.log(house)):
            if row[0] not in ("tell", "give"):
                return
            if row[0] == "give":
                self.gives += [(row[1], hold) for hold in row[2]]

    def busy(self, many):
        for time in range(many):
            self.deed()
        # Wishes and roads at last, so that letters have somewhere to go.
        for time in range(many // 2):
            self.deed(("join", "wish", "step"))

    def still(self):
        lanes = []
        while self.town.waiting():
            lanes.append(self.rng.choice(self.town.waiting()))
            if self.town.step(*lanes[-1])[0] != "letter":
                lanes.pop()
            else:
                self.look(lanes[-1][1])
        return lanes

    def holds(self):
        return [(house, wish) for number, house, wish in self.town.holds()]

    def any_letter(self):
        return by_words.any_letter(self.rng, self.fields, 0, self.most)


def roads_of(way):
    return [tuple(sorted(pair)) for pair in zip(way, way[1:])]


class Still(unittest.TestCase):
    def test_each_house_has_heard_what_the_table_tells(self):
        rng = by_words.dice(61)
        told = 0
        for time in range(250):
            drawn = Drawn(rng)
            for turn in range(3):
                drawn.busy(rng.choice((5, 20, 50)))
                drawn.still()
                web = drawn.town.roads()
                for road in web[1]:
                    for house, other in (road, road[::-1]):
                        asked = table_of(web, drawn.holds(), drawn.how, house, other)
                        self.assertEqual(drawn.town.heard(house, other), asked)
                        self.assertEqual(drawn.town.under_way(house, other), [])
                        told += len(asked) > 1
        self.assertGreater(told, 200)

    def test_a_letter_goes_where_it_is_led(self):
        rng = by_words.dice(62)
        far = 0
        for time in range(250):
            drawn = Drawn(rng)
            drawn.busy(rng.choice((10, 30, 60)))
            drawn.still()
            for turn in range(4):
                town, house, letter = drawn.town, rng.randrange(drawn.many), drawn.any_letter()
                numbers = [number for number, home, wish in town.holds()]
                roads, given = led_by(town.roads(), drawn.holds(), drawn.how, house, letter)
                ahead = town.counts()
                number = town.send(house, letter)
                lanes = drawn.still()
                self.assertEqual(sorted(lanes), roads)
                self.assertEqual(town.given(number), [numbers[k] for k in given])
                self.assertEqual(town.counts(), (ahead[0], ahead[1] + len(roads)))
                far += len(roads) > 1
        self.assertGreater(far, 100)

    def test_in_whatever_order_things_come(self):
        rng = by_words.dice(63)
        for time in range(40):
            first = Drawn(rng)
            deeds = [deed for deed in (first.deed(("join", "wish", "back", "wish")) for k in range(40)) if deed]
            ends = []
            for turn in range(4):
                town = Town(first.many, first.fields, first.how)
                for name, things in deeds:
                    getattr(town, name)(*things)
                    for step in range(rng.choice((0, 0, 1, 5))):
                        if town.waiting():
                            town.step(*rng.choice(town.waiting()))
                while town.waiting():
                    town.step(*rng.choice(town.waiting()))
                ends.append([town.heard(one, other) for road in town.roads()[1] for one, other in (road, road[::-1])])
            self.assertEqual(ends, ends[:1] * 4)


class Meanwhile(unittest.TestCase):
    def test_nobody_misses_a_letter_that_all_had_been_told_to_lead(self):
        rng = by_words.dice(64)
        kept = broken = 0
        for time in range(400):
            drawn = Drawn(rng)
            drawn.busy(rng.choice((20, 50)))
            drawn.still()
            town, house, letter = drawn.town, rng.randrange(drawn.many), drawn.any_letter()
            promised = {}
            for number, home, wish in town.holds():
                way = by_words.way(town.roads(), house, home)
                if way is not None and by_words.has(wish, letter):
                    promised[number] = (home, roads_of(way))
            asked = len(promised)
            number = town.send(house, letter)
            drawn.look(house)
            for turn in range(rng.choice((5, 20, 60))):
                drawn.deed()
                # A road that was cut is gone for the promise, though it may be joined again.
                standing = [hold for hold, home, wish in town.holds()]
                roads = town.roads()[1]
                promised = {hold: (home, way) for hold, (home, way) in promised.items()
                            if hold in standing and all(road in roads for road in way)}
                if not town.waiting():
                    break
            drawn.still()
            given = town.given(number)
            self.assertEqual([hold for hold in promised if hold not in given], [])
            kept += len([hold for hold, (home, way) in promised.items() if way])
            broken += len(promised) < asked
        self.assertGreater(kept, 100)
        self.assertGreater(broken, 30)

    def test_none_goes_where_it_is_not_wished_and_none_is_given_twice(self):
        rng = by_words.dice(65)
        seen = 0
        for time in range(200):
            drawn = Drawn(rng)
            letters = {}
            for turn in range(150):
                deed = drawn.deed()
                if deed and deed[0] == "send":
                    letters[len(letters)] = deed[1][1]
            drawn.still()
            self.assertEqual(len(set(drawn.gives)), len(drawn.gives))
            for number, letter in letters.items():
                given = drawn.town.given(number)
                self.assertEqual(given, sorted(hold for one, hold in drawn.gives if one == number))
                for hold in given:
                    self.assertTrue(by_words.has(drawn.wishes[hold], letter))
                seen += len(given)
        self.assertGreater(seen, 200)


if __name__ == "__main__":
    unittest.main()
