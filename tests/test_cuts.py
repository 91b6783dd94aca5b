import copy
import unittest

import by_words
from roofpost.together import covered, is_cuts

FAR = 10 ** 59
HALVES = [((0, 4),), ((5, 9),)]
WHOLE = ((0, 9),)


def any_number(rng):
    return rng.choice((rng.randint(-2, 11), rng.randint(0, 9), rng.randint(0, 2), FAR, -FAR))


def any_tree(rng, depth):
    if depth == 0 or rng.random() < 0.3:
        return ("by", rng.choice((rng.randint(0, 3), rng.randint(-2, 8), any_number(rng))))
    field = rng.choice((rng.randint(0, 2), 0, 0, any_number(rng)))
    return ("cut", field, rng.choice((rng.randint(0, 4), any_number(rng))),
            any_tree(rng, depth - 1), any_tree(rng, depth - 1))


def turned(rng, tree):
    """The tree with one number of it turned, or its two twigs changed over somewhere."""
    if tree[0] == "by":
        return ("by", rng.choice((tree[1] + 1, tree[1] - 1, -1 - tree[1], any_number(rng))))
    word, field, at, one, other = tree
    which = rng.randrange(6)
    if which == 0:
        return (word, rng.choice((field + 1, field - 1, field - 3, any_number(rng))), at, one, other)
    if which == 1:
        return (word, field, rng.choice((at + 1, at - 1, any_number(rng))), one, other)
    if which == 2:
        return (word, field, at, other, one)
    if which == 3:
        return (word, field, at, turned(rng, one), other)
    if which == 4:
        return (word, field, at, one, turned(rng, other))
    return (word, field, at, one, one)


def comb(numbers, last, leaf):
    """Cuts within one another at these numbers, each in the other part of the one ahead."""
    tree = last
    for number in reversed(numbers):
        tree = ("cut", 0, number, leaf(number), tree)
    return tree


class Cuts(unittest.TestCase):
    def test_by_one(self):
        self.assertIs(is_cuts([WHOLE], WHOLE, ("by", 0)), True)
        self.assertIs(is_cuts([WHOLE], ((3, 3),), ("by", 0)), True)
        self.assertIs(is_cuts([((0, 8),)], WHOLE, ("by", 0)), False)
        self.assertIs(is_cuts([((0, 8),), WHOLE], WHOLE, ("by", 0)), False)
        self.assertIs(is_cuts([((0, 8),), WHOLE], WHOLE, ("by", 1)), True)

    def test_numbers_that_no_wish_has(self):
        for k in (-3, -2, -1, 2, 3, 9, FAR, -FAR):
            self.assertIs(is_cuts([WHOLE, WHOLE], WHOLE, ("by", k)), False, k)
        for k in (0, -1, 1, FAR, -FAR):
            self.assertIs(is_cuts([], WHOLE, ("by", k)), False, k)
            self.assertIs(is_cuts([], WHOLE, ("cut", 0, 4, ("by", k), ("by", k))), False, k)

    def test_one_cut(self):
        self.assertIs(is_cuts(HALVES, WHOLE, ("cut", 0, 4, ("by", 0), ("by", 1))), True)
        self.assertIs(is_cuts(HALVES, WHOLE, ("cut", 0, 4, ("by", 1), ("by", 0))), False)
        self.assertIs(is_cuts(HALVES, WHOLE, ("cut", 0, 4, ("by", 0), ("by", 0))), False)
        self.assertIs(is_cuts(HALVES, WHOLE, ("cut", 0, 4, ("by", 1), ("by", 1))), False)
        for at in (-FAR, -1, 0, 1, 2, 3, 5, 6, 7, 8, 9, 10, FAR):
            self.assertIs(is_cuts(HALVES, WHOLE, ("cut", 0, at, ("by", 0), ("by", 1))), False, at)

    def test_cuts_at_either_end(self):
        # Both parts lie within the one wish, so that nothing but the place can be wrong.
        for at in range(-2, 12):
            tree = ("cut", 0, at, ("by", 0), ("by", 0))
            self.assertIs(is_cuts([WHOLE], ((3, 6),), tree), 3 <= at < 6, at)
            self.assertIs(is_cuts([((3, 6),)], ((3, 6),), tree), 3 <= at < 6, at)
            self.assertIs(is_cuts([WHOLE], ((5, 5),), tree), False, at)
            self.assertIs(is_cuts([WHOLE], WHOLE, tree), 0 <= at < 9, at)

    def test_fields_that_there_are_not(self):
        for fields in (1, 2, 3):
            wish = ((0, 9),) * fields
            for field in (-FAR, -4, -3, -2, -1, 0, 1, 2, 3, 4, FAR):
                tree = ("cut", field, 4, ("by", 0), ("by", 0))
                self.assertIs(is_cuts([wish], wish, tree), 0 <= field < fields, (fields, field))

    def test_a_cut_narrows_what_is_cut_behind_it(self):
        by = ("by", 0)
        self.assertIs(is_cuts([WHOLE], WHOLE, ("cut", 0, 4, ("cut", 0, 3, by, by), ("cut", 0, 5, by, by))), True)
        self.assertIs(is_cuts([WHOLE], WHOLE, ("cut", 0, 4, ("cut", 0, 4, by, by), by)), False)
        self.assertIs(is_cuts([WHOLE], WHOLE, ("cut", 0, 4, ("cut", 0, 5, by, by), by)), False)
        self.assertIs(is_cuts([WHOLE], WHOLE, ("cut", 0, 4, by, ("cut", 0, 4, by, by))), False)
        self.assertIs(is_cuts([WHOLE], WHOLE, ("cut", 0, 4, by, ("cut", 0, 9, by, by))), False)
        both = ((0, 9), (0, 9))
        self.assertIs(is_cuts([both], both, ("cut", 1, 4, ("cut", 0, 4, by, by), ("cut", 1, 8, by, by))), True)
        self.assertIs(is_cuts([both], both, ("cut", 1, 4, ("cut", 1, 4, by, by), by)), False)

    def test_needless_cuts_are_right(self):
        by = ("by", 0)
        whole = ((0, 9),) * 3
        tree = by
        for field in range(3):
            for at in range(8, -1, -1):
                tree = ("cut", field, at, by, tree)
        self.assertIs(is_cuts([whole], whole, tree), True)
        self.assertIs(is_cuts([whole[:2] + ((0, 8),)], whole, tree), False)

    def test_any_trees(self):
        rng = by_words.dice(11)
        seen = []
        for time in range(6000):
            fields = rng.randint(1, 3)
            wishes = by_words.any_wishes(rng, fields, rng.randint(0, 3), 0, 4) + [((0, 4),) * fields]
            rng.shuffle(wishes)
            wish = by_words.any_wish(rng, fields, 0, 4)
            tree = any_tree(rng, rng.randint(0, 3))
            told = is_cuts(wishes, wish, tree)
            self.assertIs(told, by_words.is_right_tree(wishes, wish, tree), (wishes, wish, tree))
            seen.append(told)
        self.assertGreater(seen.count(True), 100)

    def test_right_trees_turned_somewhere(self):
        rng = by_words.dice(12)
        seen = []
        for time in range(400):
            fields = rng.randint(1, 3)
            wish = by_words.any_wish(rng, fields, 0, 5)
            wishes = by_words.parts_of(rng, wish, rng.randint(0, 6)) + by_words.any_wishes(rng, fields, 2, 0, 5)
            rng.shuffle(wishes)
            tree = covered(wishes, wish)[1]
            self.assertIs(is_cuts(wishes, wish, tree), True)
            for change in range(5):
                other = turned(rng, tree)
                told = is_cuts(wishes, wish, other)
                self.assertIs(told, by_words.is_right_tree(wishes, wish, other), (wishes, wish, other))
                seen.append(told)
        self.assertGreater(seen.count(False), 500)

    def test_sixty_cuts_within_one_another(self):
        # Somewhat beyond the bound of numbers, sixty cuts of one field can all be right.
        wish = ((0, 60),)
        wishes = [((k, k),) for k in range(61)]
        tree = comb(list(range(60)), ("by", 60), lambda number: ("by", number))
        self.assertIs(is_cuts(wishes, wish, tree), True)
        self.assertIs(is_cuts(wishes[:60], wish, tree), False)
        self.assertIs(is_cuts(wishes, wish, comb(list(range(60)), ("by", 59), lambda number: ("by", number))), False)
        self.assertIs(is_cuts(wishes, ((0, 59),), tree), False)

    def test_sixty_cuts_of_ten_numbers_are_too_many(self):
        by = ("by", 0)
        for wish in (((0, 9),), ((0, 9), (0, 9)), ((0, 9), (0, 9), (0, 9))):
            for at in (-FAR, -1, 0, 4, 8, 9, FAR):
                left, right, both = by, by, by
                for depth in range(60):
                    left = ("cut", depth % len(wish), at, left, by)
                    right = ("cut", depth % len(wish), at, by, right)
                    # Both twigs are one tuple: gone through blindly this would never end.
                    both = ("cut", depth % len(wish), at, both, both)
                for tree in (left, right, both):
                    self.assertIs(is_cuts([wish], wish, tree), False, (wish, at))

    def test_deep_down_behind_right_cuts(self):
        by = ("by", 0)
        deep = by
        for depth in range(51):
            deep = ("cut", 0, 3, deep, by)
        tree = comb(list(range(9)), deep, lambda number: by)
        self.assertIs(is_cuts([WHOLE], WHOLE, tree), False)
        self.assertIs(is_cuts([WHOLE], WHOLE, comb(list(range(9)), by, lambda number: by)), True)

    def test_what_is_handed_in_stays_as_it_was(self):
        wishes = copy.deepcopy(HALVES)
        is_cuts(wishes, WHOLE, ("cut", 0, 4, ("by", 0), ("by", 1)))
        self.assertEqual(wishes, HALVES)


if __name__ == "__main__":
    unittest.main()
