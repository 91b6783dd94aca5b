import copy
import itertools
import unittest

import by_words
from roofpost.wishes import roof_of


class Roof(unittest.TestCase):
    def test_of_no_wish(self):
        self.assertEqual(roof_of([]), [])
        self.assertIs(type(roof_of([])), list)

    def test_of_one_wish_several_times(self):
        wish = ((2, 5), (0, 9))
        self.assertEqual(roof_of([wish]), [wish])
        self.assertEqual(roof_of([wish, wish, wish]), [wish])
        self.assertEqual(roof_of([wish, ((2, 4), (0, 9)), wish]), [wish])

    def test_those_under_another_are_left_out(self):
        self.assertEqual(roof_of([((0, 4),), ((1, 4),), ((0, 3),), ((4, 4),), ((0, 0),)]), [((0, 4),)])
        self.assertEqual(roof_of([((1, 4),), ((0, 9),), ((9, 9),)]), [((0, 9),)])

    def test_those_that_only_overlap_stay(self):
        self.assertEqual(roof_of([((3, 6),), ((0, 4),), ((6, 9),)]), [((0, 4),), ((3, 6),), ((6, 9),)])

    def test_what_only_several_cover_together_stays(self):
        self.assertEqual(roof_of([((0, 4),), ((5, 9),), ((2, 7),)]), [((0, 4),), ((2, 7),), ((5, 9),)])

    def test_rising_whatever_the_order(self):
        wishes = [((0, 4),), ((3, 6),), ((4, 6),), ((2, 9),), ((2, 9),)]
        for turned in itertools.permutations(wishes):
            self.assertEqual(roof_of(list(turned)), [((0, 4),), ((2, 9),)])

    def test_rises_by_numbers_not_by_texts(self):
        # Somewhat beyond the bound: a text of 10 would stand ahead of one of 9.
        self.assertEqual(roof_of([((10, 12),), ((9, 11),)]), [((9, 11),), ((10, 12),)])

    def test_by_letters(self):
        rng = by_words.dice(8)
        for time in range(200):
            wishes = by_words.any_wishes(rng, rng.randint(1, 3), rng.randint(0, 7), 0, rng.choice((3, 9)))
            wishes = wishes + wishes[:rng.randint(0, 2)]
            rng.shuffle(wishes)
            self.assertEqual(roof_of(wishes), by_words.roof(wishes), wishes)

    def test_the_list_handed_in_stays_as_it_was(self):
        wishes = [((5, 9),), ((0, 3),), ((5, 9),), ((1, 1),)]
        ahead = copy.deepcopy(wishes)
        roof_of(wishes)
        self.assertEqual(wishes, ahead)

    def test_a_told_list_is_the_askers_own(self):
        wishes = [((0, 3),), ((5, 9),)]
        told = roof_of(wishes)
        self.assertIsNot(told, wishes)
        told.append(((0, 9),))
        told.reverse()
        self.assertEqual(wishes, [((0, 3),), ((5, 9),)])
        self.assertEqual(roof_of(wishes), [((0, 3),), ((5, 9),)])
        none = roof_of([])
        none.append(((0, 9),))
        self.assertEqual(roof_of([]), [])

    def test_what_is_done_behind_the_call_changes_nothing(self):
        wishes = [((0, 3),), ((5, 9),)]
        told = roof_of(wishes)
        wishes.clear()
        self.assertEqual(told, [((0, 3),), ((5, 9),)])


if __name__ == "__main__":
    unittest.main()
