import copy
import itertools
import unittest

import by_words
from roofpost.together import covered, spare_of


class Spare(unittest.TestCase):
    def hold(self, wishes):
        told = spare_of(wishes)
        self.assertIs(type(told), list)
        self.assertEqual(told, by_words.spare(wishes), wishes)
        self.assertTrue(all(one < other for one, other in zip(told, told[1:])), told)
        for wish in wishes:
            self.assertEqual(by_words.left(told, wish), [], (wishes, told))
            self.assertEqual(covered(told, wish)[0], "in", (wishes, told))
        for wish in told:
            rest = [one for one in told if one != wish]
            self.assertNotEqual(by_words.left(rest, wish), [], (wishes, told))

    def test_of_no_wish_and_of_one(self):
        self.assertEqual(spare_of([]), [])
        self.assertIs(type(spare_of([])), list)
        self.assertEqual(spare_of([((2, 3),)]), [((2, 3),)])
        self.assertEqual(spare_of([((2, 3),)] * 3), [((2, 3),)])

    def test_what_others_cover_together_is_left_out(self):
        self.assertEqual(spare_of([((0, 4),), ((2, 7),), ((5, 9),)]), [((0, 4),), ((5, 9),)])
        self.assertEqual(spare_of([((0, 3),), ((2, 7),), ((5, 9),)]), [((0, 3),), ((2, 7),), ((5, 9),)])

    def test_it_is_gone_through_rising(self):
        # Each of the two in the midst could be left out, but not both: the lesser goes.
        self.assertEqual(spare_of([((0, 3),), ((2, 6),), ((3, 7),), ((7, 9),)]), [((0, 3),), ((3, 7),), ((7, 9),)])
        # Wishes that have the first one's letters together come behind it.
        self.assertEqual(spare_of([((0, 5), (0, 5)), ((0, 2), (0, 9)), ((3, 9), (0, 5))]),
                         [((0, 2), (0, 9)), ((3, 9), (0, 5))])

    def test_what_was_left_out_ahead_covers_nothing_more(self):
        # (1, 5) goes; without it (2, 6) has to stay.
        self.assertEqual(spare_of([((0, 2),), ((1, 5),), ((2, 6),), ((6, 9),)]), [((0, 2),), ((2, 6),), ((6, 9),)])

    def test_a_wish_under_another_is_gone_with_the_roof(self):
        self.assertEqual(spare_of([((0, 9),), ((0, 4),), ((5, 9),)]), [((0, 9),)])

    def test_the_order_handed_in_counts_for_nothing(self):
        wishes = [((0, 3),), ((2, 6),), ((3, 7),), ((7, 9),), ((2, 6),)]
        for other in itertools.permutations(wishes):
            self.assertEqual(spare_of(list(other)), [((0, 3),), ((3, 7),), ((7, 9),)])

    def test_any_lists(self):
        rng = by_words.dice(13)
        shorter = 0
        for time in range(800):
            fields = rng.randint(1, 3)
            most = rng.choice((2, 3, 9) if fields < 3 else (2, 3))
            wishes = by_words.any_wishes(rng, fields, rng.randint(0, 9), 0, most)
            self.hold(wishes)
            shorter += len(spare_of(wishes)) < len(by_words.roof(wishes))
        self.assertGreater(shorter, 50)

    def test_parts_and_their_whole(self):
        rng = by_words.dice(14)
        for time in range(40):
            fields = rng.randint(1, 3)
            wish = by_words.any_wish(rng, fields, 0, 5)
            self.hold(by_words.parts_of(rng, wish, 6) + by_words.any_wishes(rng, fields, 2, 0, 5))

    def test_the_list_handed_in_stays_as_it_was(self):
        wishes = [((5, 9),), ((0, 4),), ((2, 7),), ((5, 9),)]
        ahead = copy.deepcopy(wishes)
        spare_of(wishes)
        self.assertEqual(wishes, ahead)

    def test_a_told_list_is_the_askers_own(self):
        wishes = [((0, 4),), ((5, 9),)]
        told = spare_of(wishes)
        self.assertIsNot(told, wishes)
        told.clear()
        self.assertEqual(wishes, [((0, 4),), ((5, 9),)])
        self.assertEqual(spare_of(wishes), [((0, 4),), ((5, 9),)])
        none = spare_of([])
        none.append(((0, 9),))
        self.assertEqual(spare_of([]), [])

    def test_what_is_done_behind_the_call_changes_nothing(self):
        wishes = [((0, 4),), ((5, 9),)]
        told = spare_of(wishes)
        wishes.clear()
        self.assertEqual(told, [((0, 4),), ((5, 9),)])


if __name__ == "__main__":
    unittest.main()
