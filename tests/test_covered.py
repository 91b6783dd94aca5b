import copy
import itertools
import unittest

import by_words
from roofpost.together import covered, is_cuts


class Covered(unittest.TestCase):
    def hold(self, wishes, wish):
        """What is told of these, held against point 7 letter by letter."""
        told = covered(wishes, wish)
        self.assertIs(type(told), tuple)
        self.assertEqual(len(told), 2)
        left = by_words.left(wishes, wish)
        if left:
            self.assertEqual(told, ("out", left[0]), (wishes, wish))
            self.assertIs(type(told[1]), tuple)
        else:
            self.assertEqual(told[0], "in", (wishes, wish))
            self.assertTrue(by_words.is_right_tree(wishes, wish, told[1]), (wishes, wish, told))
            self.assertIs(is_cuts(wishes, wish, told[1]), True, (wishes, wish, told))
        return told[0]

    def test_a_list_of_no_wishes(self):
        self.assertEqual(covered([], ((3, 7),)), ("out", (3,)))
        self.assertEqual(covered([], ((3, 7), (9, 9), (1, 2))), ("out", (3, 9, 1)))

    def test_by_one(self):
        self.assertEqual(covered([((0, 9),)], ((3, 7),)), ("in", ("by", 0)))
        self.assertEqual(covered([((0, 0),), ((3, 7),)], ((3, 7),)), ("in", ("by", 1)))

    def test_only_together(self):
        self.assertEqual(covered([((5, 9),), ((0, 4),)], ((2, 7),)),
                         ("in", ("cut", 0, 4, ("by", 1), ("by", 0))))
        self.assertEqual(self.hold([((0, 9), (0, 4)), ((0, 4), (5, 9)), ((5, 9), (5, 9))], ((0, 9), (0, 9))), "in")

    def test_around_a_middle(self):
        # No straight cut parts these five but through one of them.
        ring = [((0, 5), (0, 3)), ((6, 9), (0, 5)), ((4, 9), (6, 9)), ((0, 3), (4, 9)), ((4, 5), (4, 5))]
        self.assertEqual(self.hold(ring, ((0, 9), (0, 9))), "in")
        self.assertEqual(covered(ring[:4], ((0, 9), (0, 9))), ("out", (4, 4)))

    def test_the_first_letter_that_is_left(self):
        self.assertEqual(covered([((0, 3),)], ((0, 9),)), ("out", (4,)))
        self.assertEqual(covered([((1, 3),)], ((0, 9),)), ("out", (0,)))
        self.assertEqual(covered([((0, 3),), ((5, 9),)], ((0, 9),)), ("out", (4,)))
        self.assertEqual(covered([((0, 8),)], ((0, 9),)), ("out", (9,)))
        # (0, 9) goes ahead of (1, 0): the first field counts most.
        self.assertEqual(covered([((0, 0), (0, 8))], ((0, 9), (0, 9))), ("out", (0, 9)))
        self.assertEqual(covered([((0, 0), (0, 9))], ((0, 9), (0, 9))), ("out", (1, 0)))
        self.assertEqual(covered([((0, 9), (0, 9), (0, 8)), ((0, 7), (0, 9), (9, 9)), ((8, 8), (0, 4), (9, 9))],
                                 ((0, 9), (0, 9), (0, 9))), ("out", (8, 5, 9)))

    def test_each_letter_left_alone(self):
        whole = ((2, 4), (5, 7), (0, 2))
        every = by_words.letters(whole)
        for letter in every:
            wishes = [tuple((number, number) for number in one) for one in every if one != letter]
            self.assertEqual(covered(wishes, whole), ("out", letter))
        self.assertEqual(self.hold([tuple((number, number) for number in one) for one in every], whole), "in")

    def test_all_lists_of_two_of_one_field(self):
        pairs = [((low, high),) for low in range(4) for high in range(low, 4)]
        for one, other, wish in itertools.product(pairs, repeat=3):
            self.hold([one, other], wish)

    def test_any_lists(self):
        rng = by_words.dice(9)
        seen = []
        for time in range(1500):
            fields = rng.randint(1, 3)
            most = rng.choice((2, 4, 9) if fields < 3 else (2, 4))
            wishes = by_words.any_wishes(rng, fields, rng.randint(0, 9), 0, most)
            seen.append(self.hold(wishes, by_words.any_wish(rng, fields, 0, most)))
        self.assertGreater(seen.count("in"), 200)
        self.assertGreater(seen.count("out"), 200)

    def test_any_parts_of_the_wish(self):
        rng = by_words.dice(10)
        for time in range(150):
            fields = rng.randint(1, 3)
            wish = by_words.any_wish(rng, fields)
            parts = by_words.parts_of(rng, wish, rng.randint(1, 12))
            self.assertEqual(self.hold(parts, wish), "in")
            gone = parts.pop()
            self.assertEqual(self.hold(parts, wish), "out")
            self.assertEqual(covered(parts, gone), ("out", tuple(low for low, high in gone)))

    def test_what_is_handed_in_stays_as_it_was(self):
        wishes = [((5, 9),), ((0, 4),), ((5, 9),)]
        ahead = copy.deepcopy(wishes)
        told = covered(wishes, ((0, 9),))
        self.assertEqual(wishes, ahead)
        wishes.clear()
        self.assertTrue(by_words.is_right_tree(ahead, ((0, 9),), told[1]))
        self.assertEqual(covered(ahead, ((0, 9),)), told)

    def test_somewhat_beyond_the_bounds(self):
        self.assertEqual(covered([((-3, 11),)], ((-3, 12),)), ("out", (12,)))
        self.assertEqual(self.hold([((k, k),) for k in range(41)], ((0, 40),)), "in")
        self.assertEqual(self.hold([((0, 1),) * 4], ((0, 1),) * 4), "in")


if __name__ == "__main__":
    unittest.main()
