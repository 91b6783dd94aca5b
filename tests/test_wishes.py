import itertools
import unittest

import by_words
from roofpost.wishes import covers, has_letter, in_common, is_letter, is_wish, letters_of

# Neither a letter nor a wish.
NEITHER = [
    None, True, False, 0, 9, 10 ** 59, "", "0", "0,1", "0-4", "letter", [], [0], [0, 1], [(0, 1)], [[0, 1]],
    (), (()), ([],), ("",), ("0",), ("0", "1"), (None,), (None, None), (True,), (False,), (True, 1), (1, False),
    (0, 1, True), (-1,), (10,), (0, 10), (0, -1), (5, 5, 10), (5, 5, -1), (10 ** 59,), (-10 ** 59,),
    (0, 0, 0, 0), (1, 2, 3, 4, 5), (0, None), (0, "1"), (0, [1]), (0, (1,)), ((0, 1), 0), (0, (0, 1)),
    ((),), ((0,),), ((0, 1, 2),), ([0, 1],), ((0, 1), [0, 1]), (("0", "1"),), ("01",), ((None, None),),
    ((0, None),), ((None, 0),), ((False, True),), ((0, True),), ((False, 0),), ((True, 9),),
    ((1, 0),), ((9, 8),), ((0, 1), (1, 0)), ((0, 0), (0, 0), (9, 0)),
    ((-1, 0),), ((0, 10),), ((10, 10),), ((-2, -1),), ((0, 9), (0, 10)), ((0, 9), (-1, 9)),
    ((0, 10 ** 59),), ((-10 ** 59, 9),), ((0, 1), (0, 1), (0, 1), (0, 1)), ((0, 9),) * 5,
    (((0, 1),),), ((((0, 1),),),), (((((0,),),),),), [[[[[0]]]]], ((0, (1,)),), (((0,), 1),), ((0, [1]),),
    ((0, "1"),), ((0, 1), None), ((0, 1), True), ((0, 1), "0-1"), ((0, 1), ()),
]

LETTERS = [(0,), (9,), (5,), (0, 0), (9, 9), (0, 9), (0, 0, 0), (9, 9, 9), (1, 2, 3)]

WISHES = [((0, 0),), ((9, 9),), ((0, 9),), ((3, 4),), ((0, 9), (0, 9)), ((5, 5), (0, 1)),
          ((0, 0), (0, 0), (0, 0)), ((9, 9), (9, 9), (9, 9)), ((0, 9), (1, 2), (8, 9))]


class Anything(unittest.TestCase):
    def test_letters_are_letters_and_no_wishes(self):
        for letter in LETTERS:
            self.assertIs(is_letter(letter), True, letter)
            self.assertIs(is_wish(letter), False, letter)

    def test_wishes_are_wishes_and_no_letters(self):
        for wish in WISHES:
            self.assertIs(is_wish(wish), True, wish)
            self.assertIs(is_letter(wish), False, wish)

    def test_what_is_neither(self):
        for thing in NEITHER:
            self.assertIs(is_letter(thing), False, thing)
            self.assertIs(is_wish(thing), False, thing)

    def test_each_number_in_each_place_of_a_letter(self):
        for fields in (1, 2, 3):
            for place in range(fields):
                for number in range(-3, 14):
                    thing = (4,) * place + (number,) + (4,) * (fields - place - 1)
                    self.assertIs(is_letter(thing), 0 <= number <= 9, thing)

    def test_each_pair_in_each_place_of_a_wish(self):
        for fields in (1, 2, 3):
            for place in range(fields):
                for low, high in itertools.product(range(-2, 12), repeat=2):
                    thing = ((4, 6),) * place + ((low, high),) + ((4, 6),) * (fields - place - 1)
                    self.assertIs(is_wish(thing), 0 <= low <= high <= 9, thing)

    def test_a_strange_thing_in_each_place(self):
        for strange in (True, False, None, "", "3", [], [3], (3,), [3, 4], ["3"]):
            for fields in (1, 2, 3):
                for place in range(fields):
                    letter = (4,) * place + (strange,) + (4,) * (fields - place - 1)
                    self.assertIs(is_letter(letter), False, letter)
                    wish = ((4, 6),) * place + (strange,) + ((4, 6),) * (fields - place - 1)
                    self.assertIs(is_wish(wish), False, wish)
            self.assertIs(is_wish(((strange, 9),)), False, strange)
            self.assertIs(is_wish(((0, strange),)), False, strange)

    def test_how_many_fields(self):
        for fields in range(8):
            self.assertIs(is_letter((7,) * fields), 1 <= fields <= 3)
            self.assertIs(is_wish(((0, 7),) * fields), 1 <= fields <= 3)


class Having(unittest.TestCase):
    def test_ends_and_one_beyond(self):
        for number in range(10):
            self.assertIs(has_letter(((3, 6),), (number,)), 3 <= number <= 6, number)
            self.assertIs(has_letter(((5, 5),), (number,)), number == 5, number)
            self.assertIs(has_letter(((0, 9),), (number,)), True, number)

    def test_each_field_counts(self):
        wish = ((1, 3), (4, 6), (7, 8))
        for letter in itertools.product(range(10), repeat=3):
            self.assertIs(has_letter(wish, letter), by_words.has(wish, letter), letter)

    def test_a_wish_of_one_letter(self):
        for letter in itertools.product(range(10), repeat=2):
            self.assertIs(has_letter(((0, 0), (9, 9)), letter), letter == (0, 9), letter)


class Covering(unittest.TestCase):
    def test_ends_and_one_beyond(self):
        pairs = [(low, high) for low in range(10) for high in range(low, 10)]
        for one, other in itertools.product(pairs, repeat=2):
            told = covers((one,), (other,))
            self.assertIs(told, by_words.covers((one,), (other,)), (one, other))

    def test_itself(self):
        for wish in WISHES:
            self.assertIs(covers(wish, wish), True, wish)

    def test_one_field_beyond_is_enough(self):
        wide = ((2, 7), (2, 7), (2, 7))
        self.assertIs(covers(wide, ((2, 7), (3, 3), (2, 6))), True)
        for field in range(3):
            for pair in ((1, 7), (2, 8), (1, 1), (8, 8), (0, 9)):
                other = wide[:field] + (pair,) + wide[field + 1:]
                self.assertIs(covers(wide, other), False, other)

    def test_by_letters(self):
        rng = by_words.dice(5)
        for time in range(300):
            fields = rng.randint(1, 3)
            one, other = by_words.any_wishes(rng, fields, 2)
            self.assertIs(covers(one, other), by_words.covers(one, other), (one, other))
            inner = tuple((rng.randint(low, (low + high) // 2), high) for low, high in one)
            self.assertIs(covers(one, inner), True, (one, inner))


class Common(unittest.TestCase):
    def test_wishes_that_meet_in_one_number(self):
        self.assertEqual(in_common(((0, 4),), ((4, 9),)), ((4, 4),))
        self.assertEqual(in_common(((4, 9),), ((0, 4),)), ((4, 4),))
        self.assertEqual(in_common(((0, 4), (2, 2)), ((4, 9), (0, 9))), ((4, 4), (2, 2)))

    def test_wishes_beside_one_another(self):
        self.assertIs(in_common(((0, 4),), ((5, 9),)), None)
        self.assertIs(in_common(((5, 9),), ((0, 4),)), None)
        for field in range(3):
            one = [(0, 9)] * 3
            other = [(0, 9)] * 3
            one[field], other[field] = (2, 3), (4, 5)
            self.assertIs(in_common(tuple(one), tuple(other)), None)
            self.assertIs(in_common(tuple(other), tuple(one)), None)

    def test_one_within_the_other(self):
        self.assertEqual(in_common(((0, 9), (1, 8)), ((3, 4), (8, 8))), ((3, 4), (8, 8)))
        for wish in WISHES:
            self.assertEqual(in_common(wish, wish), wish)

    def test_by_letters(self):
        rng = by_words.dice(6)
        for time in range(300):
            one, other = by_words.any_wishes(rng, rng.randint(1, 3), 2)
            both = [letter for letter in by_words.letters(one) if by_words.has(other, letter)]
            told = in_common(one, other)
            if both:
                self.assertIs(type(told), tuple)
                self.assertTrue(all(type(pair) is tuple for pair in told))
                self.assertEqual(by_words.letters(told), both, (one, other))
            else:
                self.assertIs(told, None, (one, other))


class HowMany(unittest.TestCase):
    def test_ends(self):
        self.assertEqual(letters_of(((0, 0),)), 1)
        self.assertEqual(letters_of(((0, 9),)), 10)
        self.assertEqual(letters_of(((0, 9), (0, 9), (0, 9))), 1000)
        self.assertEqual(letters_of(((9, 9), (9, 9), (9, 9))), 1)
        self.assertEqual(letters_of(((0, 1), (0, 2), (0, 4))), 30)

    def test_by_letters(self):
        rng = by_words.dice(7)
        for time in range(200):
            wish = by_words.any_wish(rng, rng.randint(1, 3))
            self.assertIs(type(letters_of(wish)), int)
            self.assertEqual(letters_of(wish), len(by_words.letters(wish)), wish)


class Beyond(unittest.TestCase):
    """What lies somewhat beyond a bound is not refused."""

    def test_numbers_beyond(self):
        self.assertIs(has_letter(((-2, 12),), (-2,)), True)
        self.assertIs(has_letter(((-2, 12),), (13,)), False)
        self.assertIs(covers(((-2, 12),), ((0, 12),)), True)
        self.assertIs(covers(((0, 11),), ((0, 12),)), False)
        self.assertEqual(in_common(((-2, 12),), ((12, 14),)), ((12, 12),))
        self.assertEqual(letters_of(((-2, 12),)), 15)

    def test_four_fields(self):
        wish = ((0, 9), (0, 9), (0, 9), (0, 1))
        self.assertIs(has_letter(wish, (9, 9, 9, 1)), True)
        self.assertIs(has_letter(wish, (9, 9, 9, 2)), False)
        self.assertEqual(letters_of(wish), 2000)


if __name__ == "__main__":
    unittest.main()
