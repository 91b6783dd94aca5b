import copy
import itertools
import unittest

import by_words
from roofpost.errors import NoHouse, NoRoad
from roofpost.webs import houses_behind, is_web, neighbours_of, way_between

FAR = 10 ** 59
LINE = (4, ((0, 1), (1, 2), (2, 3)))
STAR = (8, ((0, 3), (1, 3), (2, 3), (3, 4), (3, 5), (3, 6), (3, 7)))
PARTED = (6, ((0, 4), (1, 5), (2, 4)))
NO_HOUSES = (-FAR, -2, -1, 8, 9, FAR)


def roads_among(many):
    return list(itertools.combinations(range(many), 2))


def has_ring_by_its_words(many, roads):
    for size in range(3, many + 1):
        for houses in itertools.permutations(range(many), size):
            if all(tuple(sorted(pair)) in roads for pair in zip(houses, houses[1:] + houses[:1])):
                return True
    return False


def any_thing(rng, depth):
    if depth == 0 or rng.random() < 0.3:
        return rng.choice((0, 1, 2, 3, 8, 9, -1, FAR, True, False, None, "", "0", "web"))
    parts = [any_thing(rng, depth - 1) for k in range(rng.randint(0, 3))]
    return rng.choice((tuple, list))(parts)


def places_of(thing):
    """The ways down to each thing within a thing, itself, too."""
    below = []
    if isinstance(thing, (tuple, list)):
        below = [(k,) + path for k, part in enumerate(thing) for path in places_of(part)]
    return [()] + below


def put_at(thing, path, other):
    if path == ():
        return other
    parts = list(thing)
    parts[path[0]] = put_at(thing[path[0]], path[1:], other)
    return type(thing)(parts)


def got_at(thing, path):
    return got_at(thing[path[0]], path[1:]) if path else thing


class IsWeb(unittest.TestCase):
    def hold(self, thing):
        ahead = copy.deepcopy(thing)
        told = is_web(thing)
        self.assertIs(told, by_words.is_web(thing), thing)
        self.assertEqual(thing, ahead)
        return told

    def test_webs(self):
        for web in (LINE, STAR, PARTED, (1, ()), (8, ()), (2, ((0, 1),)), (8, ((0, 7),))):
            self.assertIs(is_web(web), True, web)

    def test_how_many_houses(self):
        for many in (-FAR, -1, 0, 9, 10, FAR, True, False, None, "4", (4,), [4]):
            self.assertIs(is_web((many, ())), False, many)
            self.assertIs(is_web((many, ((0, 1),))), False, many)
        for many in range(1, 9):
            self.assertIs(is_web((many, ())), True, many)

    def test_rings(self):
        for size in range(3, 9):
            ring = [tuple(sorted((k, (k + 1) % size))) for k in range(size)]
            self.assertIs(is_web((8, tuple(sorted(ring)))), False, size)
            for road in ring:
                self.assertIs(is_web((8, tuple(sorted(set(ring) - {road})))), True, (size, road))
        self.assertIs(is_web((8, ((0, 1), (2, 3), (4, 5), (4, 7), (5, 7)))), False)

    def test_all_roads_among_few_houses(self):
        for many in (1, 2, 3, 4, 5):
            roads = roads_among(many)
            for size in range(len(roads) + 1):
                for some in itertools.combinations(roads, size):
                    self.assertIs(is_web((many, some)), not has_ring_by_its_words(many, some), some)

    def test_a_road_twice(self):
        for roads in (((0, 1), (0, 1)), ((0, 1), (1, 2), (1, 2)), ((0, 1), (0, 1), (1, 2))):
            self.assertIs(is_web((4, roads)), False, roads)

    def test_a_road_turned_about_or_to_itself(self):
        for roads in (((1, 0),), ((0, 1), (2, 1)), ((1, 0), (1, 2)), ((0, 1), (1, 0)), ((0, 0),), ((0, 1), (1, 1))):
            self.assertIs(is_web((4, roads)), False, roads)

    def test_roads_out_of_order(self):
        for order in itertools.permutations(LINE[1]):
            self.assertIs(is_web((4, order)), order == LINE[1], order)
        self.assertIs(is_web((4, ((0, 3), (0, 1)))), False)
        self.assertIs(is_web((4, ((0, 1), (0, 3)))), True)

    def test_houses_that_there_are_not(self):
        for roads in (((0, 4),), ((-1, 0),), ((0, 1), (3, 4)), ((0, FAR),), ((-FAR, 0),), ((4, 5),), ((-2, -1),)):
            self.assertIs(is_web((4, roads)), False, roads)
        self.assertIs(is_web((1, ((0, 1),))), False)

    def test_things_of_other_kinds(self):
        for thing in (None, True, False, 0, 4, "", "web", (), [], (4,), [4, ()], (4, (), ()), (4, []), (4, None), (4, ""),
                      (4, "01"), (4, 0), (4, False), ((), 4), ((4, ()),), (4, ((0, 1, 2),)), (4, ((0,),)), (4, ((),)),
                      (4, (0, 1)), (4, ([0, 1],)), (4, [(0, 1)]), (4, (None,)), (4, ("01",)), (4, (("0", "1"),)),
                      (4, ((0, None),)), (4, ((None, 1),)), (4, (((0, 1),),)), (4, ((0, (1,)),)), (4, ((0, [1]),))):
            self.assertIs(self.hold(thing), False, thing)

    def test_truths_are_no_houses(self):
        # To Python they are like 0 and 1, so that it doesn't tell them apart itself.
        for roads in (((False, 1),), ((0, True),), ((False, True),), ((0, 1), (True, 2)), ((0, 2), (True, 2))):
            self.assertIs(is_web((4, roads)), False, roads)
        self.assertIs(is_web((True, ())), False)

    def test_one_place_of_a_web_put_otherwise(self):
        others = (0, 1, 2, 3, 4, 8, 9, -1, FAR, True, False, None, "", "0", (), [], (0, 1), [0, 1], ((0, 1),), [(0, 1)])
        for web in (LINE, STAR, PARTED, (1, ()), (3, ((0, 1), (0, 2)))):
            for path in places_of(web):
                for other in others:
                    self.hold(put_at(web, path, other))
                part = got_at(web, path)
                if isinstance(part, tuple):
                    for other in (list(part), part + part[:1], part[:-1], part[::-1], (part,)):
                        self.hold(put_at(web, path, other))

    def test_any_webs_and_any_roads(self):
        rng = by_words.dice(31)
        seen = []
        for time in range(2000):
            many = rng.randint(1, 8)
            web = by_words.any_web(rng, many)
            self.assertIs(self.hold(web), True)
            roads = roads_among(many)
            seen.append(self.hold((many, tuple(sorted(rng.sample(roads, min(len(roads), rng.randint(0, 9))))))))
            more = tuple(sorted(set(web[1]) | {rng.choice(roads)})) if roads else ()
            seen.append(self.hold((many, more)))
            self.hold((rng.randint(-1, 9), web[1]))
        self.assertGreater(seen.count(False), 500)
        self.assertGreater(seen.count(True), 500)

    def test_anything(self):
        rng = by_words.dice(32)
        for time in range(5000):
            self.hold(any_thing(rng, 4))
            self.hold((rng.randint(0, 9), any_thing(rng, 3)))


class Ways(unittest.TestCase):
    def hold(self, web):
        ahead = copy.deepcopy(web)
        houses = range(web[0])
        for house in houses:
            told = neighbours_of(web, house)
            self.assertIs(type(told), list)
            self.assertEqual(told, by_words.neighbours(web, house), (web, house))
            for other in houses:
                told = way_between(web, house, other)
                self.assertIn(type(told), (list, type(None)))
                self.assertEqual(told, by_words.way(web, house, other), (web, house, other))
                if tuple(sorted((house, other))) in web[1]:
                    told = houses_behind(web, house, other)
                    self.assertIs(type(told), list)
                    self.assertEqual(told, by_words.behind(web, house, other), (web, house, other))
                else:
                    with self.assertRaises(NoRoad):
                        houses_behind(web, house, other)
        self.assertEqual(web, ahead)

    def test_some(self):
        self.assertEqual(neighbours_of(STAR, 3), [0, 1, 2, 4, 5, 6, 7])
        self.assertEqual(neighbours_of(STAR, 7), [3])
        self.assertEqual(neighbours_of(PARTED, 3), [])
        self.assertEqual(way_between(LINE, 0, 3), [0, 1, 2, 3])
        self.assertEqual(way_between(LINE, 3, 1), [3, 2, 1])
        self.assertEqual(way_between(LINE, 2, 2), [2])
        self.assertEqual(way_between(PARTED, 3, 3), [3])
        self.assertEqual(way_between(PARTED, 0, 2), [0, 4, 2])
        self.assertIs(way_between(PARTED, 0, 1), None)
        self.assertEqual(houses_behind(LINE, 1, 2), [2, 3])
        self.assertEqual(houses_behind(LINE, 2, 1), [0, 1])
        self.assertEqual(houses_behind(STAR, 7, 3), [0, 1, 2, 3, 4, 5, 6])
        self.assertEqual(houses_behind(STAR, 3, 7), [7])
        self.assertEqual(houses_behind(PARTED, 4, 0), [0])

    def test_all_webs_of_few_houses(self):
        for many in (1, 2, 3, 4):
            roads = roads_among(many)
            for size in range(len(roads) + 1):
                for some in itertools.combinations(roads, size):
                    if by_words.is_web((many, some)):
                        self.hold((many, some))

    def test_any_webs(self):
        rng = by_words.dice(33)
        for web in (LINE, STAR, PARTED):
            self.hold(web)
        for time in range(250):
            self.hold(by_words.any_web(rng, rng.randint(1, 8), rng.choice((0.5, 0.8, 1))))

    def test_somewhat_beyond_the_bounds(self):
        rng = by_words.dice(34)
        for many in (9, 10, 12):
            self.hold(by_words.any_web(rng, many, 1))

    def test_told_lists_are_the_askers_own(self):
        for function, things in ((neighbours_of, (LINE, 1)), (way_between, (LINE, 0, 3)), (houses_behind, (LINE, 1, 2))):
            first = function(*things)
            kept = list(first)
            first.append(9)
            self.assertEqual(function(*things), kept)


class Refusals(unittest.TestCase):
    def refused(self, error, function, *things):
        with self.assertRaises(error) as seen:
            function(*things)
        self.assertIs(type(seen.exception), error, things)

    def test_no_house(self):
        for web in (LINE, STAR, PARTED, (1, ()), (8, ())):
            for house in NO_HOUSES + (web[0], web[0] + 1):
                self.refused(NoHouse, neighbours_of, web, house)
                self.refused(NoHouse, way_between, web, house, house)
                self.refused(NoHouse, houses_behind, web, house, house)
                for other in (0, web[0] - 1):
                    for function in (way_between, houses_behind):
                        self.refused(NoHouse, function, web, house, other)
                        self.refused(NoHouse, function, web, other, house)

    def test_no_road(self):
        self.refused(NoRoad, houses_behind, LINE, 0, 2)
        self.refused(NoRoad, houses_behind, LINE, 3, 0)
        self.refused(NoRoad, houses_behind, PARTED, 0, 1)
        for web in (LINE, STAR, PARTED, (1, ())):
            for house in range(web[0]):
                self.refused(NoRoad, houses_behind, web, house, house)


if __name__ == "__main__":
    unittest.main()
