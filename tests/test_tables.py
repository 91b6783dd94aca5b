import copy
import itertools
import unittest

import by_words
from roofpost.errors import NoHold, NoHouse, NoKin, NoRoad
from roofpost.tables import chain_to, led_by, short_of, table_of

FAR = 10 ** 59
HOWS = ("roof", "spare")
LINE = (4, ((0, 1), (1, 2), (2, 3)))
PARTED = (5, ((0, 1), (1, 2)))
# The wish of house 3 lies under those of 1 and 2 together, under neither alone.
HOLDS = [(1, ((0, 4),)), (2, ((5, 9),)), (3, ((3, 6),)), (0, ((9, 9),))]
NO_HOUSES = (-FAR, -1, 5, 6, FAR)
NO_HOLDS = (-FAR, -2, -1, 4, 5, FAR)


def any_town(rng):
    many = rng.randint(1, 8)
    fields = rng.randint(1, 3)
    most = rng.choice((3, 9) if fields == 1 else (2, 3))
    web = by_words.any_web(rng, many, rng.choice((0.7, 0.9, 1)))
    holds = [(rng.randrange(many), by_words.any_wish(rng, fields, 0, most)) for k in range(rng.randint(0, 10))]
    return web, holds, fields, most


class Short(unittest.TestCase):
    def test_both_ways(self):
        wishes = [((5, 9),), ((2, 7),), ((0, 4),), ((2, 3),), ((5, 9),)]
        self.assertEqual(short_of("roof", wishes), [((0, 4),), ((2, 7),), ((5, 9),)])
        self.assertEqual(short_of("spare", wishes), [((0, 4),), ((5, 9),)])
        for how in HOWS:
            self.assertEqual(short_of(how, []), [])
            self.assertEqual(short_of(how, [((1, 2),)] * 2), [((1, 2),)])

    def test_any_lists(self):
        rng = by_words.dice(41)
        unlike = 0
        for time in range(300):
            fields = rng.randint(1, 3)
            wishes = by_words.any_wishes(rng, fields, rng.randint(0, 8), 0, 3)
            ahead = copy.deepcopy(wishes)
            told = [short_of(how, wishes) for how in HOWS]
            self.assertEqual(told, [by_words.roof(wishes), by_words.spare(wishes)], wishes)
            self.assertIs(type(told[0]), list)
            self.assertIs(type(told[1]), list)
            self.assertEqual(wishes, ahead)
            unlike += told[0] != told[1]
        self.assertGreater(unlike, 20)

    def test_a_new_list(self):
        wishes = [((0, 4),), ((5, 9),)]
        for how in HOWS:
            told = short_of(how, wishes)
            told.append(1)
            self.assertEqual(short_of(how, wishes), [((0, 4),), ((5, 9),)])

    def test_kin(self):
        for how in HOWS:
            for place in range(3):
                wishes = [((0, 9), (0, 9))] * 3
                wishes[place] = ((0, 9),)
                with self.assertRaises(NoKin) as seen:
                    short_of(how, wishes)
                self.assertIs(type(seen.exception), NoKin)


class Tables(unittest.TestCase):
    def hold(self, web, holds, how):
        ahead = copy.deepcopy((web, holds))
        heard = by_words.tables(web, holds, how)
        for (house, neighbour), wishes in heard.items():
            told = table_of(web, holds, how, house, neighbour)
            self.assertIs(type(told), list)
            self.assertEqual(told, wishes, (web, holds, how, house, neighbour))
        self.assertEqual((web, holds), ahead)
        return heard

    def test_some(self):
        self.assertEqual(table_of(LINE, HOLDS, "roof", 0, 1), [((0, 4),), ((3, 6),), ((5, 9),)])
        self.assertEqual(table_of(LINE, HOLDS, "spare", 0, 1), [((0, 4),), ((5, 9),)])
        for how in HOWS:
            self.assertEqual(table_of(LINE, HOLDS, how, 1, 0), [((9, 9),)])
            self.assertEqual(table_of(LINE, HOLDS, how, 2, 3), [((3, 6),)])
            self.assertEqual(table_of(LINE, HOLDS, how, 1, 2), [((3, 6),), ((5, 9),)])
            self.assertEqual(table_of(LINE, HOLDS, how, 2, 1), [((0, 4),), ((9, 9),)])
            self.assertEqual(table_of(LINE, [], how, 2, 1), [])

    def test_each_teller_makes_short_what_was_short(self):
        # In one heap (1, 2) would be left out; but house 2 leaves out (2, 4), and then (1, 2) has to stay.
        holds = [(2, ((2, 4),)), (2, ((3, 6),)), (2, ((1, 2),)), (1, ((0, 1),))]
        self.assertEqual(short_of("spare", [wish for house, wish in holds]), [((0, 1),), ((2, 4),), ((3, 6),)])
        self.assertEqual(table_of(LINE, holds, "spare", 0, 1), [((0, 1),), ((1, 2),), ((3, 6),)])
        self.assertEqual(table_of(LINE, holds, "spare", 1, 2), [((1, 2),), ((3, 6),)])
        self.hold(LINE, holds, "spare")

    def test_any_towns(self):
        rng = by_words.dice(43)
        for time in range(250):
            web, holds, fields, most = any_town(rng)
            for how in HOWS:
                self.hold(web, holds, how)

    def test_all_still_in_a_house_alone(self):
        self.assertEqual(led_by((1, ()), [(0, ((0, 4),)), (0, ((3, 9),))], "roof", 0, (3,)), ([], [0, 1]))

    def test_told_lists_are_the_askers_own(self):
        for how in HOWS:
            kept = table_of(LINE, HOLDS, how, 2, 3)
            kept.append(((0, 0),))
            self.assertEqual(table_of(LINE, HOLDS, how, 2, 3), [((3, 6),)])


class Led(unittest.TestCase):
    def hold(self, web, holds, how, house, letter):
        ahead = copy.deepcopy((web, holds))
        told = led_by(web, holds, how, house, letter)
        self.assertIs(type(told), tuple)
        self.assertEqual([type(one) for one in told], [list, list])
        self.assertEqual(told, by_words.led(web, holds, how, house, letter), (web, holds, how, house, letter))
        for number in range(len(holds)):
            chain = chain_to(web, holds, how, house, letter, number)
            self.assertIn(type(chain), (list, type(None)))
            self.assertEqual(chain, by_words.chain(web, holds, how, house, letter, number),
                             (web, holds, how, house, letter, number))
            self.assertEqual(chain is not None, number in told[1])
        self.assertEqual((web, holds), ahead)
        return told

    def test_some(self):
        for how in HOWS:
            self.assertEqual(led_by(LINE, HOLDS, how, 0, (3,)), ([(0, 1), (1, 2), (2, 3)], [0, 2]))
            self.assertEqual(led_by(LINE, HOLDS, how, 0, (2,)), ([(0, 1)], [0]))
            self.assertEqual(led_by(LINE, HOLDS, how, 1, (9,)), ([(1, 0), (1, 2)], [1, 3]))
            self.assertEqual(led_by(LINE, HOLDS, how, 3, (3,)), ([(2, 1), (3, 2)], [0, 2]))
            self.assertEqual(led_by(PARTED, HOLDS, how, 3, (3,)), ([], [2]))
            self.assertEqual(led_by(PARTED, HOLDS, how, 4, (3,)), ([], []))
            self.assertEqual(led_by(LINE, [], how, 0, (3,)), ([], []))

    def test_chains(self):
        self.assertEqual(chain_to(LINE, HOLDS, "roof", 0, (4,), 2),
                         [(0, 1, ((0, 4),)), (1, 2, ((3, 6),)), (2, 3, ((3, 6),))])
        self.assertEqual(chain_to(LINE, HOLDS, "roof", 0, (6,), 2),
                         [(0, 1, ((3, 6),)), (1, 2, ((3, 6),)), (2, 3, ((3, 6),))])
        self.assertEqual(chain_to(LINE, HOLDS, "spare", 0, (6,), 2),
                         [(0, 1, ((5, 9),)), (1, 2, ((3, 6),)), (2, 3, ((3, 6),))])
        for how in HOWS:
            self.assertEqual(chain_to(LINE, HOLDS, how, 3, (3,), 2), [])
            self.assertEqual(chain_to(LINE, HOLDS, how, 0, (9,), 3), [])
            self.assertIs(chain_to(LINE, HOLDS, how, 3, (7,), 2), None)
            self.assertIs(chain_to(PARTED, HOLDS, how, 0, (3,), 2), None)
            self.assertEqual(chain_to(LINE, HOLDS, how, 3, (9,), 3),
                             [(3, 2, ((5, 9),)), (2, 1, ((9, 9),)), (1, 0, ((9, 9),))])

    def test_any_towns(self):
        rng = by_words.dice(44)
        far = 0
        for time in range(250):
            web, holds, fields, most = any_town(rng)
            house = rng.randrange(web[0])
            letter = by_words.any_letter(rng, fields, 0, most)
            for how in HOWS:
                far += len(self.hold(web, holds, how, house, letter)[0]) > 2
        self.assertGreater(far, 50)

    def test_just_where_it_is_wished(self):
        # Point 3 of the tables alone: each hold that has it and has a way, and as few roads as join them.
        rng = by_words.dice(45)
        for time in range(250):
            web, holds, fields, most = any_town(rng)
            house = rng.randrange(web[0])
            letter = by_words.any_letter(rng, fields, 0, most)
            lucky = [k for k, (home, wish) in enumerate(holds)
                     if by_words.has(wish, letter) and by_words.way(web, house, home) is not None]
            ways = [by_words.way(web, house, holds[k][0]) for k in lucky]
            roads = sorted({pair for way in ways for pair in zip(way, way[1:])})
            for how in HOWS:
                self.assertEqual(led_by(web, holds, how, house, letter), (roads, lucky))

    def test_told_lists_are_the_askers_own(self):
        for how in HOWS:
            roads, given = led_by(LINE, HOLDS, how, 0, (3,))
            self.assertIsNot(roads, given)
            roads.clear()
            given.append(9)
            self.assertEqual(led_by(LINE, HOLDS, how, 0, (3,)), ([(0, 1), (1, 2), (2, 3)], [0, 2]))
            chain_to(LINE, HOLDS, how, 0, (3,), 0).clear()
            self.assertEqual(chain_to(LINE, HOLDS, how, 0, (3,), 0), [(0, 1, ((0, 4),))])
            # Two empty lists are two lists, too.
            roads, given = led_by(LINE, [], how, 0, (3,))
            self.assertIsNot(roads, given)


class Refusals(unittest.TestCase):
    def refused(self, error, function, *things):
        ahead = copy.deepcopy(things)
        with self.assertRaises(error) as seen:
            function(*things)
        self.assertIs(type(seen.exception), error, things)
        self.assertEqual(things, ahead)

    def strange(self):
        """The holds with one that has two fields, at each place, also in a house that none has a way to."""
        for place in range(len(HOLDS) + 1):
            yield HOLDS[:place] + [(4, ((0, 9), (0, 9)))] + HOLDS[place:]

    def test_no_kin(self):
        for how in HOWS:
            for holds in self.strange():
                self.refused(NoKin, table_of, PARTED, holds, how, 0, 1)
                for letter in ((9,), (9, 9), (9, 9, 9)):
                    self.refused(NoKin, led_by, PARTED, holds, how, 0, letter)
                    for number in range(len(holds)):
                        self.refused(NoKin, chain_to, PARTED, holds, how, 0, letter, number)

    def test_no_kin_by_the_letter(self):
        for how in HOWS:
            for fields, strange in itertools.permutations((1, 2, 3), 2):
                holds = [(4, ((0, 9),) * fields)] * 2
                self.refused(NoKin, led_by, PARTED, holds, how, 0, (3,) * strange)
                self.refused(NoKin, chain_to, PARTED, holds, how, 0, (3,) * strange, 0)
            for fields in (1, 2, 3):
                self.assertEqual(led_by(PARTED, [], how, 0, (3,) * fields), ([], []))

    def test_no_house(self):
        for how in HOWS:
            for house in NO_HOUSES:
                self.refused(NoHouse, table_of, PARTED, HOLDS, how, house, 1)
                self.refused(NoHouse, table_of, PARTED, HOLDS, how, 1, house)
                self.refused(NoHouse, table_of, PARTED, HOLDS, how, house, house)
                for holds in ([], HOLDS):
                    self.refused(NoHouse, led_by, PARTED, holds, how, house, (3,))
                self.refused(NoHouse, chain_to, PARTED, HOLDS, how, house, (3,), 0)

    def test_no_road(self):
        for how in HOWS:
            for house, other in itertools.product(range(5), repeat=2):
                if tuple(sorted((house, other))) not in PARTED[1]:
                    self.refused(NoRoad, table_of, PARTED, HOLDS, how, house, other)

    def test_no_hold(self):
        for how in HOWS:
            for number in NO_HOLDS:
                for letter in ((3,), (9,)):
                    self.refused(NoHold, chain_to, PARTED, HOLDS, how, 0, letter, number)
            for number in (-1, 0, 1):
                self.refused(NoHold, chain_to, PARTED, [], how, 0, (3,), number)

    def test_no_kin_ahead_of_all(self):
        for how in HOWS:
            for holds in self.strange():
                for house, other in ((0, 5), (-1, 1), (9, 9), (0, 2), (3, 3), (0, 4)):
                    self.refused(NoKin, table_of, PARTED, holds, how, house, other)
                for house in NO_HOUSES:
                    self.refused(NoKin, led_by, PARTED, holds, how, house, (3,))
                    self.refused(NoKin, chain_to, PARTED, holds, how, house, (3,), 0)
                    self.refused(NoKin, chain_to, PARTED, holds, how, house, (3,), 9)
                self.refused(NoKin, chain_to, PARTED, holds, how, 0, (3,), -1)
            self.refused(NoKin, led_by, PARTED, HOLDS, how, 5, (3, 3))
            self.refused(NoKin, chain_to, PARTED, HOLDS, how, 5, (3, 3), 0)
            self.refused(NoKin, chain_to, PARTED, HOLDS, how, 0, (3, 3), 4)

    def test_no_house_ahead_of_no_hold(self):
        for how in HOWS:
            for house, number in itertools.product(NO_HOUSES, NO_HOLDS):
                self.refused(NoHouse, chain_to, PARTED, HOLDS, how, house, (3,), number)
                self.refused(NoHouse, chain_to, PARTED, [], how, house, (3,), number)


if __name__ == "__main__":
    unittest.main()
