"""Point 4: letters and wishes that are handed in together have equally many fields."""

import copy
import itertools
import unittest

from roofpost.errors import NoKin
from roofpost.fewest import fewest_of, is_fewest
from roofpost.together import covered, is_cuts, spare_of
from roofpost.wishes import covers, has_letter, in_common, roof_of


def wish_of(fields):
    return ((0, 9),) * fields


def letter_of(fields):
    return (4,) * fields


class Kin(unittest.TestCase):
    def refused(self, function, *things):
        ahead = copy.deepcopy(things)
        with self.assertRaises(NoKin) as seen:
            function(*things)
        self.assertIs(type(seen.exception), NoKin)
        self.assertEqual(things, ahead)

    def test_two_of_unlike_many_fields(self):
        for one, other in itertools.permutations((1, 2, 3), 2):
            self.refused(has_letter, wish_of(one), letter_of(other))
            self.refused(covers, wish_of(one), wish_of(other))
            self.refused(in_common, wish_of(one), wish_of(other))
            self.refused(covered, [wish_of(one)], wish_of(other))
            self.refused(is_cuts, [wish_of(one)], wish_of(other), ("by", 0))

    def test_refused_though_the_fields_that_both_have_settle_it(self):
        self.refused(has_letter, ((0, 4),), (9, 9))
        self.refused(covers, ((0, 4),), ((9, 9), (0, 0)))
        self.refused(in_common, ((0, 4),), ((9, 9), (0, 0)))

    def test_at_any_place_of_a_list(self):
        for fields, strange in itertools.permutations((1, 2, 3), 2):
            for many in (2, 3, 6):
                for place in range(many):
                    wishes = [wish_of(fields)] * many
                    wishes[place] = wish_of(strange)
                    self.refused(roof_of, wishes)
                    self.refused(spare_of, wishes)
                    self.refused(covered, wishes, wish_of(fields))
                    self.refused(covered, wishes, wish_of(strange))
                    self.refused(is_cuts, wishes, wish_of(fields), ("by", 0))
                    self.refused(is_cuts, wishes, wish_of(strange), ("by", place))

    def test_all_of_a_list_unlike_the_wish(self):
        for fields, strange in itertools.permutations((1, 2, 3), 2):
            self.refused(covered, [wish_of(fields)] * 3, wish_of(strange))
            self.refused(is_cuts, [wish_of(fields)] * 3, wish_of(strange), ("by", 0))

    def test_wrong_trees_are_refused_likewise(self):
        for tree in (("by", 7), ("by", -1), ("cut", 9, 9, ("by", 0), ("by", 0)),
                     ("cut", 0, 4, ("by", 0), ("by", 0))):
            self.refused(is_cuts, [wish_of(2), wish_of(1)], wish_of(2), tree)
            self.refused(is_cuts, [wish_of(2)], wish_of(1), tree)

    def test_a_wish_that_is_needed_for_nothing(self):
        # The first one covers all, so the last need never be looked at.
        self.refused(covered, [wish_of(2), ((0, 0),)], ((5, 5), (5, 5)))
        self.refused(roof_of, [wish_of(1), ((0, 0),), ((0, 0), (0, 0))])

    def test_fewest_of_a_list(self):
        for fields, strange in itertools.permutations((1, 2, 3), 2):
            for many in (2, 6):
                for place in range(many):
                    wishes = [((k, 9),) * fields for k in range(many)]
                    told = fewest_of(wishes)
                    wishes[place] = ((0, 9),) * strange
                    self.refused(fewest_of, wishes)
                    self.refused(is_fewest, wishes, told)

    def test_fewest_with_a_strange_choice(self):
        for fields, strange in itertools.permutations((1, 2, 3), 2):
            wishes = [((0, 4),) * fields, ((5, 9),) * fields]
            number, some, tree = fewest_of(wishes)
            odd = ((0, 4),) * strange
            self.assertIs(is_fewest(wishes, (number, some, tree)), True)
            for other in ([odd], [odd, odd], some + [odd], [odd] + some, [some[0], odd]):
                for many in (number, len(other), 10 ** 59, -1):
                    self.refused(is_fewest, wishes, (many, other, tree))

    def test_fewest_with_a_strange_letter(self):
        wishes = [((0, 4),), ((5, 9),)]
        for tree in (("left", (0, 0)), ("meet", (0, 0), [("left", (0,))]), ("meet", (5,), [("left", (0, 0))])):
            # Also where the number settles it, so that the tree need never be gone through.
            for number in (2, 3, -1):
                self.refused(is_fewest, wishes, (number, wishes, tree))

    def test_equally_many_fields_are_not_refused(self):
        for fields in (1, 2, 3):
            self.assertIs(has_letter(wish_of(fields), letter_of(fields)), True)
            self.assertIs(covers(wish_of(fields), wish_of(fields)), True)
            self.assertEqual(roof_of([wish_of(fields)] * 3), [wish_of(fields)])
            self.assertEqual(covered([], wish_of(fields))[0], "out")
            self.assertIs(is_cuts([], wish_of(fields), ("by", 0)), False)


if __name__ == "__main__":
    unittest.main()
