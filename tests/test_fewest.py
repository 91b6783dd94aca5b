import copy
import itertools
import unittest

import by_words
from roofpost.fewest import fewest_of, is_fewest
from roofpost.together import spare_of
from roofpost.wishes import is_letter

FAR = 10 ** 59
THREE = [((0, 4),), ((2, 7),), ((5, 9),)]
LEFT = ("left", (0,))


def one_field(*pairs):
    return [(pair,) for pair in pairs]


def any_list(rng):
    """One to six wishes; many of them parts of one, so that some are needed for nothing."""
    fields = rng.randint(1, 3)
    most = rng.choice((2, 4, 9) if fields == 1 else (2, 3, 4) if fields == 2 else (1, 2, 3))
    wishes = by_words.any_wishes(rng, fields, rng.randint(1, 6), 0, most)
    if rng.random() < 0.5:
        wishes = by_words.parts_of(rng, ((0, most),) * fields, rng.randint(0, 4))[:5] + wishes[:1]
    return wishes


def letters_of_tree(tree):
    below = [letter for twig in tree[2] for letter in letters_of_tree(twig)] if tree[0] == "meet" else []
    return [tree[1]] + below


def bent_tree(rng, tree, fields):
    """The tree bent at one place: a letter, a word, or a branch taken out, put in, changed over or made like another."""
    if tree[0] == "left":
        return rng.choice((("left", any_near(rng, tree[1])), ("left", by_words.any_letter(rng, fields, -1, 10)),
                           ("meet", tree[1], []), ("meet", tree[1], [tree]), ("meet", tree[1], [tree, tree])))
    word, letter, twigs = tree
    which = rng.randrange(9)
    if which == 0:
        return (word, any_near(rng, letter), twigs)
    if which == 1:
        return ("left", letter)
    if which == 2:
        return (word, letter, twigs[1:])
    if which == 3:
        return (word, letter, twigs + [rng.choice(twigs)])
    if which == 4:
        return (word, letter, twigs[::-1])
    if which == 5:
        return (word, letter, [rng.choice(twigs)] * len(twigs))
    if which == 6:
        return (word, letter, [tree] + twigs[1:])
    place = rng.randrange(len(twigs))
    return (word, letter, twigs[:place] + [bent_tree(rng, twigs[place], fields)] + twigs[place + 1:])


def any_near(rng, letter):
    place = rng.randrange(len(letter))
    return letter[:place] + (letter[place] + rng.choice((-1, 1, 2, -2, FAR, -FAR)),) + letter[place + 1:]


def bent_list(rng, wishes, some):
    place = rng.randrange(len(some))
    which = rng.randrange(6)
    if which == 0:
        return some[:place] + some[place + 1:]
    if which == 1:
        return some + [some[place]]
    if which == 2:
        return some[::-1]
    if which == 3:
        return some[:place] + [rng.choice(by_words.roof(wishes))] + some[place + 1:]
    if which == 4:
        return sorted(some[:place] + [rng.choice(wishes)] + some[place + 1:])
    return sorted(set(some + [rng.choice(wishes)]))


def bent(rng, wishes, thing):
    number, some, tree = thing
    which = rng.randrange(5)
    if which == 0:
        return (rng.choice((number + 1, number - 1, 0, -number, FAR, -FAR)), some, tree)
    if which == 1:
        return (number, bent_list(rng, wishes, some), tree)
    if which == 2:
        other = bent_list(rng, wishes, some)
        return (len(other), other, tree)
    return (number, some, bent_tree(rng, tree, len(wishes[0])))


class Fewest(unittest.TestCase):
    def hold(self, wishes):
        ahead = copy.deepcopy(wishes)
        told = fewest_of(wishes)
        self.assertEqual(wishes, ahead)
        self.assertIs(type(told), tuple)
        self.assertIs(type(told[0]), int)
        self.assertIs(type(told[1]), list)
        self.assertEqual(told[0], by_words.fewest(wishes), wishes)
        self.assertTrue(by_words.is_right_fewest(wishes, told), (wishes, told))
        self.assertTrue(all(is_letter(letter) for letter in letters_of_tree(told[2])), told)
        lists = by_words.lists_in(told)
        self.assertEqual(len({id(one) for one in lists + [wishes]}), len(lists) + 1, told)
        self.assertIs(is_fewest(wishes, told), True, (wishes, told))
        self.assertEqual(wishes, ahead)
        return told

    def test_of_one_wish(self):
        self.assertEqual(self.hold([((2, 2),)]), (1, [((2, 2),)], ("left", (2,))))
        self.assertEqual(self.hold([((2, 2), (7, 7))] * 6)[:2], (1, [((2, 2), (7, 7))]))
        self.assertEqual(self.hold([((0, 9),) * 3])[0], 1)

    def test_one_that_covers_the_others(self):
        self.assertEqual(self.hold(one_field((3, 4), (0, 9), (5, 9)))[:2], (1, [((0, 9),)]))

    def test_one_that_is_needed_for_nothing(self):
        self.assertEqual(self.hold(THREE)[:2], (2, [((0, 4),), ((5, 9),)]))

    def test_all_of_six(self):
        stairs = [((0, k), (0, 5 - k)) for k in range(6)]
        self.assertEqual(self.hold(stairs)[:2], (6, stairs))
        self.assertEqual(self.hold(stairs[::-1])[:2], (6, stairs))
        self.assertEqual(self.hold([((k, k),) for k in range(6)])[0], 6)

    def test_fewer_than_the_spare_list(self):
        # The spare list leaves out as it goes; what stays then may be more than need be.
        rng = by_words.dice(21)
        fewer = 0
        for time in range(300):
            wishes = by_words.any_wishes(rng, 2, 6, 0, 3)
            fewer += self.hold(wishes)[0] < len(spare_of(wishes))
        self.assertGreater(fewer, 0)

    def test_any_lists(self):
        rng = by_words.dice(22)
        seen = []
        for time in range(900):
            seen.append(self.hold(any_list(rng))[0])
        for number in range(1, 6):
            self.assertGreater(seen.count(number), 5, number)

    def test_lists_of_all_numbers(self):
        rng = by_words.dice(23)
        for time in range(60):
            self.hold(by_words.any_wishes(rng, rng.randint(1, 2), 6))
        self.hold([((0, 4), (0, 9), (0, 9)), ((5, 9), (0, 9), (0, 9)), ((0, 9), (0, 9), (3, 5))])

    def test_all_lists_of_few_numbers(self):
        pairs = [((low, high),) for low in range(4) for high in range(low, 4)]
        for many in (1, 2, 3):
            for wishes in itertools.combinations(pairs, many):
                self.hold(list(wishes))

    def test_somewhat_beyond_the_bounds(self):
        rng = by_words.dice(24)
        for time in range(20):
            self.hold(by_words.any_wishes(rng, rng.randint(1, 2), rng.randint(7, 8), 0, 4))

    def test_of_no_wish_nothing_is_chosen(self):
        # Fewer than none can't be, so there is no tree that shows it.
        self.assertEqual(fewest_of([]), (0, [], None))

    def test_told_lists_are_the_askers_own(self):
        first = fewest_of(THREE)
        kept = copy.deepcopy(first)
        for told in by_words.lists_in(first):
            told.append("more")
        self.assertEqual(fewest_of(THREE), kept)
        self.assertEqual(THREE, one_field((0, 4), (2, 7), (5, 9)))


class Judged(unittest.TestCase):
    def hold(self, wishes, thing):
        ahead = copy.deepcopy((wishes, thing))
        told = is_fewest(wishes, thing)
        self.assertIs(told, by_words.is_right_fewest(wishes, thing), (wishes, thing))
        self.assertEqual((wishes, thing), ahead)
        return told

    def test_any_right_one_is_right(self):
        # Which one is told isn't promised: all of these are right, too.
        wishes = one_field((0, 3), (2, 6), (3, 7), (7, 9))
        tree = ("meet", (0,), [("meet", (9,), [("left", (5,))])])
        for some in (one_field((0, 3), (2, 6), (7, 9)), one_field((0, 3), (3, 7), (7, 9))):
            self.assertTrue(self.hold(wishes, (3, some, tree)))
        for letter in ((4,), (5,), (6,)):
            self.assertTrue(self.hold(wishes, (3, some, ("meet", (0,), [("meet", (9,), [("left", letter)])]))))
        both = ("meet", (5,), [("meet", (0,), [("left", (9,))]), ("meet", (9,), [("left", (1,))])])
        self.assertTrue(self.hold(wishes, (3, some, both)))
        self.assertFalse(self.hold(wishes, (3, one_field((0, 3), (2, 6), (3, 7)), tree)))

    def test_numbers(self):
        for wishes in (THREE, [((1, 1),)], [((k, k),) for k in range(6)]):
            number, some, tree = fewest_of(wishes)
            for other in (-FAR, -2, -1, 0, 1, 2, 3, 4, 5, 6, 7, FAR):
                self.assertEqual(self.hold(wishes, (other, some, tree)), other == number)
        for other in (-1, 0, 1):
            self.assertFalse(self.hold([((1, 1),)], (other, [], ("left", (1,)))))

    def test_more_than_need_be(self):
        for tree in (("left", (0,)), ("meet", (0,), [("left", (9,))]), ("meet", (0,), [("meet", (9,), [("left", (4,))])])):
            self.assertFalse(self.hold(THREE, (3, THREE, tree)))
        whole = one_field((0, 4), (5, 9))
        self.assertTrue(self.hold(THREE, (2, whole, ("meet", (0,), [("left", (9,))]))))

    def test_the_list(self):
        tree = ("meet", (0,), [("left", (9,))])
        for some in (one_field((5, 9), (0, 4)), one_field((0, 4), (0, 4)), one_field((0, 4), (4, 9)),
                     one_field((0, 5), (5, 9)), one_field((0, 4), (2, 7)), one_field((0, 4)), []):
            self.assertFalse(self.hold(THREE, (2, some, tree)))
            self.assertFalse(self.hold(THREE, (len(some), some, tree)))
        # Of the list, and enough, but not of its roof.
        wishes = one_field((0, 4), (5, 9), (5, 9), (0, 4), (6, 9))
        self.assertTrue(self.hold(wishes, (2, one_field((0, 4), (5, 9)), tree)))
        self.assertFalse(self.hold(wishes, (2, one_field((0, 4), (6, 9)), tree)))
        self.assertFalse(self.hold(wishes, (3, one_field((0, 4), (5, 9), (6, 9)), tree)))

    def test_the_letters(self):
        some = one_field((0, 4), (5, 9))
        for number in range(-1, 11):
            # Behind (0, 4) is chosen, what is left begins at 5.
            self.assertEqual(self.hold(THREE, (2, some, ("meet", (0,), [("left", (number,))]))), 5 <= number <= 9)
            twigs = [("left", (9,))] * len([wish for wish in THREE if by_words.has(wish, (number,))])
            told = self.hold(THREE, (2, some, ("meet", (number,), twigs)))
            self.assertEqual(told, number in (0, 1, 2, 3, 4))
        for letter in ((FAR,), (-FAR,)):
            self.assertFalse(self.hold(THREE, (2, some, ("meet", (0,), [("left", letter)]))))
            self.assertFalse(self.hold(THREE, (2, some, ("meet", letter, []))))

    def test_the_branches(self):
        some = one_field((0, 4), (5, 9))
        two = [("left", (9,)), ("left", (0,))]
        self.assertTrue(self.hold(THREE, (2, some, ("meet", (4,), two))))
        for twigs in ([], two[:1], two[1:], two + two[:1], two[::-1], [("meet", (9,), []), two[1]],
                      [("meet", (9,), [LEFT, LEFT]), two[1]]):
            self.assertFalse(self.hold(THREE, (2, some, ("meet", (4,), twigs))), twigs)

    def test_too_few_or_too_many_choices(self):
        wishes = one_field((0, 4), (5, 9))
        tree = LEFT
        self.assertFalse(self.hold(wishes, (2, wishes, tree)))
        tree = ("meet", (5,), [tree])
        self.assertTrue(self.hold(wishes, (2, wishes, tree)))
        for choices in range(5):
            tree = ("meet", (5,), [tree])
            self.assertFalse(self.hold(wishes, (2, wishes, tree)))

    def test_of_a_list_of_none_nothing_is_right(self):
        for tree in (LEFT, ("meet", (0,), []), ("meet", (0,), [LEFT])):
            for number in (-1, 0, 1):
                self.assertIs(is_fewest([], (number, [], tree)), False)

    def test_bent_at_one_place(self):
        rng = by_words.dice(25)
        seen = []
        for time in range(500):
            wishes = any_list(rng)
            told = fewest_of(wishes)
            for change in range(8):
                thing = bent(rng, wishes, told)
                if thing != told:
                    seen.append(self.hold(wishes, thing))
        self.assertGreater(seen.count(False), 2000)
        self.assertGreater(seen.count(True), 30)

    def test_all_things_of_few_numbers(self):
        # Every tree of at most two choices over three letters, beside every list of at most two.
        wishes = one_field((0, 1), (1, 2))
        lefts = [("left", (k,)) for k in range(4)]
        meets = [("meet", (k,), list(twigs)) for k in range(4) for many in range(3)
                 for twigs in itertools.product(lefts, repeat=many)]
        lists = [list(some) for many in range(3) for some in itertools.product(wishes, repeat=many)]
        right = 0
        for tree, some, number in itertools.product(lefts + meets, lists, range(-1, 4)):
            right += self.hold(wishes, (number, some, tree))
        self.assertGreater(right, 0)


if __name__ == "__main__":
    unittest.main()
