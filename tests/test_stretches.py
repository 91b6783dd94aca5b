"""Point 21: few stretches, held against all choices of gaps, and against all lists where there are few numbers."""

import collections
import copy
import itertools
import unittest

import by_words
from roofpost.stretches import few_of, is_few

FAR = 10 ** 59


def any_counts(rng, most_long=100):
    long = rng.choice((1, 2, 5, 12, 30, most_long))
    most = rng.choice((0, 1, 3, 50, 10 ** 6, FAR // 1000))
    return [rng.choice((0, rng.randint(0, most))) if rng.random() < 0.4 else rng.randint(0, most) for k in range(long)]


def any_stretches(rng, long):
    """Drawn by length, so that some leave gaps and some overlap; now and then shifted, within one another or twice."""
    wide = rng.choice((1, 2, 3, max(1, long // 12), long))
    stretches = []
    for k in range(rng.randint(1, 12)):
        low = rng.randrange(long)
        stretches.append((low, min(long - 1, low + rng.randrange(wide))))
    if rng.random() < 0.3:
        low, high = rng.choice(stretches)
        near = [(low, high), (low, low), (high, high), (min(high + 1, long - 1), min(high + 2, long - 1))]
        stretches[rng.randrange(len(stretches))] = rng.choice(near)
    return stretches


def drawn(rng, times, most_long=100):
    for time in range(times):
        counts = any_counts(rng, most_long)
        yield any_stretches(rng, len(counts)), rng.choice((1, 1, 2, 2, 3, 4, 5, 7, 12, 13, 100)), counts


def least_of_all_lists(stretches, many, counts):
    """All sets of numbers that lie in so many rows of neighbouring numbers at most, tried one by one."""
    asked = by_words.numbers_in(stretches, counts)
    free = [number for number in range(len(counts)) if number not in asked]
    least = None
    for size in range(len(free) + 1):
        for more in itertools.combinations(free, size):
            if len(by_words.runs(asked | set(more))) <= many:
                needless = sum(counts[number] for number in more)
                least = needless if least is None else min(least, needless)
    return least


class Few(unittest.TestCase):
    def look(self, stretches, many, counts):
        """What is told, its form and its rightness; told is how many gaps there are."""
        thing = few_of(stretches, many, counts)
        self.assertEqual([type(part) for part in thing], [int, list, int])
        self.assertIs(type(thing), tuple)
        for stretch in thing[1]:
            self.assertEqual((type(stretch), [type(number) for number in stretch]), (tuple, [int, int]))
        case = (stretches, many, counts, thing)
        self.assertTrue(by_words.is_right_few(stretches, many, counts, thing), case)
        self.assertEqual(thing[0], by_words.least_needless(stretches, many, counts), case)
        self.assertLessEqual(thing[2], sum(counts), case)
        self.assertIs(is_few(stretches, many, counts, thing), True, case)
        return thing

    def test_all_choices_of_gaps(self):
        rng = by_words.dice(91)
        seen = collections.Counter()
        for stretches, many, counts in drawn(rng, 3000):
            thing = self.look(stretches, many, counts)
            gaps = len(by_words.gap_weights(stretches, counts))
            seen["none" if gaps == 0 else "enough" if gaps < many else "some stay in"] += 1
            seen["needless"] += thing[0] > 0
        for name in ("none", "enough", "some stay in", "needless"):
            self.assertGreater(seen[name], 300, name)

    def test_all_lists(self):
        rng = by_words.dice(92)
        for stretches, many, counts in drawn(rng, 400, 9):
            if len(counts) <= 9:
                thing = self.look(stretches, many, counts)
                self.assertEqual(thing[0], least_of_all_lists(stretches, many, counts))

    def test_by_hand(self):
        counts = [5, 1, 2, 3, 9, 4, 7, 1]
        for stretches, many, asked in (
                ([(0, 0), (2, 2), (4, 4), (6, 6)], 1, (8, 4)), ([(0, 0), (2, 2), (4, 4), (6, 6)], 2, (4, 3)),
                ([(0, 0), (2, 2), (4, 4), (6, 6)], 3, (1, 1)), ([(0, 0), (2, 2), (4, 4), (6, 6)], 4, (0, 0)),
                ([(0, 0), (2, 2), (4, 4), (6, 6)], 100, (0, 0)), ([(3, 5)], 1, (0, 0)), ([(0, 7)], 1, (0, 0)),
                ([(1, 1), (7, 7)], 1, (25, 25)), ([(1, 1), (7, 7)], 2, (0, 0))):
            thing = self.look(stretches, many, counts)
            self.assertEqual(thing[0], asked[0])
            self.assertTrue(is_few(stretches, many, counts, (thing[0], thing[1], asked[1])))

    def test_stretches_that_overlap_touch_or_lie_within(self):
        counts = list(range(1, 13))
        for many in (1, 2, 3):
            for stretches in ([(1, 4), (3, 6)], [(1, 4), (5, 6)], [(1, 6), (2, 3)], [(1, 6), (1, 6)], [(5, 6), (1, 4)],
                              [(1, 6), (6, 6)], [(2, 2), (1, 6), (5, 5), (3, 3)]):
                thing = self.look(stretches, many, counts)
                self.assertEqual((thing[0], by_words.numbers_in(thing[1], counts)), (0, set(range(1, 7))))

    def test_any_order(self):
        rng = by_words.dice(93)
        for stretches, many, counts in drawn(rng, 200):
            needless = few_of(stretches, many, counts)[0]
            for turn in range(3):
                rng.shuffle(stretches)
                self.assertEqual(self.look(stretches, many, counts)[0], needless)
            self.assertEqual(self.look(stretches + stretches[:2], many, counts)[0], needless)

    def test_counts_of_nothing(self):
        for many in (1, 2, 5, 100):
            stretches = [(0, 0), (3, 4), (7, 7), (9, 9)]
            thing = self.look(stretches, many, [0] * 10)
            self.assertEqual((thing[0], thing[2]), (0, 0))

    def test_gaps_that_weigh_the_same(self):
        for many in range(1, 9):
            thing = self.look([(k, k) for k in range(0, 12, 2)], many, [7] * 12)
            self.assertEqual(thing[0], 7 * max(0, 6 - many))

    def test_the_greatest_and_the_least(self):
        self.look([(0, 0)], 1, [0])
        self.look([(0, 0)], 100, [FAR])
        self.look([(8 * k, 8 * k + 3) for k in range(12)], 6, [k * k for k in range(100)])
        self.look([(0, 0), (99, 99)], 1, [FAR // 100] * 100)

    def test_somewhat_beyond_the_bounds(self):
        stretches = [(4 * k, 4 * k + 1) for k in range(30)]
        thing = few_of(stretches, 120, [1] * 130)
        self.assertEqual((thing[0], thing[1]), (0, stretches))
        self.assertTrue(is_few(stretches, 120, [1] * 130, thing))
        self.assertEqual(few_of(stretches, 20, [1] * 130)[0], 20)


def bent(rng, thing, counts):
    """The thing bent at one place, and how."""
    needless, some, mark = copy.deepcopy(thing)
    place = rng.randrange(len(some)) if some else 0
    low, high = some[place] if some else (0, 0)
    wild = (rng.randint(-3, len(counts) + 3), rng.randint(-3, len(counts) + 3))
    how = rng.choice(("needless", "bound", "in", "out", "order", "part", "twice", "mark", "far"))
    if how == "needless":
        needless += rng.choice((1, -1, sum(counts), -FAR, FAR))
    elif how == "bound" and some:
        some[place] = rng.choice(((low - 1, high), (low + 1, high), (low, high - 1), (low, high + 1), (high, low), wild,
                                  (-FAR, high), (low, FAR), (low, len(counts)), (-1, high)))
    elif how == "in":
        some.insert(rng.randint(0, len(some)), wild)
    elif how == "out" and some:
        some.pop(place)
    elif how == "order":
        rng.shuffle(some)
    elif how == "part" and low < high:
        at = rng.randrange(low, high)
        some[place:place + 1] = [(low, at), (at + 1, high)]
    elif how == "twice" and some:
        some.insert(place, some[place])
    elif how == "mark":
        mark += rng.choice((1, -1))
    elif how == "far":
        mark = rng.choice((-1, -FAR, 0, sum(counts), sum(counts) + 1, FAR, rng.randint(0, sum(counts) + 1)))
    return how, (needless, some, mark)


class Right(unittest.TestCase):
    def test_bent_at_one_place(self):
        rng = by_words.dice(94)
        seen = collections.Counter()
        for stretches, many, counts in drawn(rng, 1500):
            ahead = few_of(stretches, many, counts)
            for turn in range(8):
                how, thing = bent(rng, ahead, counts)
                asked = by_words.is_right_few(stretches, many, counts, thing)
                self.assertIs(is_few(stretches, many, counts, thing), asked, (stretches, many, counts, thing))
                seen[how, asked] += 1
        for how in ("needless", "bound", "in", "out", "order", "part", "twice", "mark", "far"):
            self.assertGreater(seen[how, False], 100, how)
        for how in ("bound", "part", "mark", "far"):
            self.assertGreater(seen[how, True], 5, how)

    def test_each_way_to_be_wrong_alone(self):
        stretches, counts = [(1, 1), (3, 3), (6, 7)], [1, 1, 4, 1, 3, 3, 1, 1, 0, 1]
        right = (4, [(1, 3), (6, 7)], 4)
        self.assertTrue(is_few(stretches, 2, counts, right))
        for thing in ((3, right[1], 4), (5, right[1], 4), (-4, right[1], 4), (4, [], 4), (4, [(1, 3)], 4),
                      (4, [(6, 7), (1, 3)], 4), (4, [(1, 3), (6, 6)], 4), (4, [(2, 3), (6, 7)], 4),
                      (4, [(1, 3), (7, 6)], 4), (4, [(1, 3), (3, 3), (6, 7)], 4), (4, [(1, 3), (1, 3)], 4),
                      (4, [(1, 2), (3, 3), (6, 7)], 4), (4, [(1, 3), (6, 7), (9, 8)], 4), (4, right[1], 3),
                      (4, right[1], -4), (4, right[1], -1), (4, right[1], 7), (4, right[1], FAR),
                      (4, [(1, 3), (6, 10)], 4), (4, [(-1, 3), (6, 7)], 4), (6, [(1, 1), (3, 7)], 4),
                      (6, [(1, 1), (3, 7)], 6), (10, [(1, 7)], 4), (4, [(1, FAR)], 4), (4, [(-FAR, 3), (6, 7)], 4)):
            self.assertIs(is_few(stretches, 2, counts, thing), False, thing)

    def test_right_though_otherwise_than_told(self):
        stretches, counts = [(1, 1), (3, 3), (6, 7)], [1, 1, 4, 1, 3, 3, 1, 1, 0, 1]
        # The number 8 weighs nothing; stretches may touch where there are enough; marks between two weights are right.
        for many, thing in ((2, (4, [(1, 3), (6, 8)], 4)), (2, (4, [(1, 3), (6, 7)], 5)), (2, (4, [(1, 3), (6, 7)], 6)),
                            (1, (10, [(1, 7)], 6)), (1, (10, [(1, 7)], FAR)), (1, (10, [(1, 7)], sum(counts) + 1)),
                            (3, (0, [(1, 1), (3, 3), (6, 7)], 0)), (3, (0, [(1, 1), (3, 3), (6, 7)], 4)),
                            (4, (0, [(1, 1), (3, 3), (6, 6), (7, 7)], 0)), (4, (0, [(1, 1), (3, 3), (6, 7), (8, 8)], 0))):
            self.assertIs(is_few(stretches, many, counts, thing), True, (many, thing))
        for many, thing in ((3, (0, [(1, 1), (3, 3), (6, 7)], 5)), (4, (0, [(1, 1), (3, 3), (6, 7)], 1)),
                            (1, (10, [(1, 7)], 5)), (3, (0, [(1, 1), (3, 3), (6, 6), (7, 7)], 0))):
            self.assertIs(is_few(stretches, many, counts, thing), False, (many, thing))

    def test_a_list_that_is_not_the_least(self):
        # Two gaps of 1 and 2, one may be left out: that of 1 left out is a right list, but no mark shows it least.
        stretches, counts = [(0, 0), (2, 2), (4, 4)], [0, 1, 0, 2, 0]
        for mark in list(range(-5, 20)) + [FAR, -FAR]:
            self.assertIs(is_few(stretches, 2, counts, (2, [(0, 0), (2, 4)], mark)), False, mark)
            self.assertIs(is_few(stretches, 2, counts, (1, [(0, 2), (4, 4)], mark)), mark in (1, 2), mark)
            self.assertIs(is_few(stretches, 2, counts, (3, [(0, 4)], mark)), False, mark)


class Handed(unittest.TestCase):
    def test_lists_stay_and_what_is_told_is_new(self):
        rng = by_words.dice(95)
        for stretches, many, counts in drawn(rng, 200):
            ahead = (list(stretches), list(counts))
            thing = few_of(stretches, many, counts)
            asked = copy.deepcopy(thing)
            is_few(stretches, many, counts, thing)
            self.assertEqual(((stretches, counts), thing), (ahead, asked))
            thing[1].append("spoilt")
            self.assertEqual((stretches, counts), ahead)
            self.assertEqual(few_of(stretches, many, counts), asked)


if __name__ == "__main__":
    unittest.main()
