"""Point 22: letters, wishes and webs written and read, and texts that are none."""

import collections
import itertools
import unittest

import by_words
from roofpost.errors import NoText
from roofpost.texts import read_letter, read_web, read_wish, show_letter, show_web, show_wish

SIGNS = [chr(number) for number in range(32, 127) if chr(number) != "%"] + ["\n", "\r", "\r\n"]
PAIRS = [(low, high) for low in range(10) for high in range(low, 10)]
READERS = {"letter": (read_letter, by_words.letter_of), "wish": (read_wish, by_words.wish_of),
           "web": (read_web, by_words.web_of)}


class Held(unittest.TestCase):
    def look(self, kind, text):
        """Read, or refused, just as the document's words say; told is what was read, or None."""
        read, asked = READERS[kind][0], READERS[kind][1](text)
        if asked is None:
            with self.assertRaises(NoText, msg=(kind, text)) as seen:
                read(text)
            self.assertIs(type(seen.exception), NoText)
            return None
        told = read(text)
        self.assertEqual((repr(told), type(told)), (repr(asked), tuple), (kind, text))
        return told

    def both(self, kind, thing, show, text=None):
        told = show(thing)
        self.assertIs(type(told), str)
        self.assertEqual(told, by_words.written(thing) if text is None else text)
        self.assertEqual(self.look(kind, told), thing)


class Written(Held):
    def test_every_letter(self):
        for fields in (1, 2, 3):
            for letter in itertools.product(range(10), repeat=fields):
                self.both("letter", letter, show_letter)

    def test_wishes(self):
        for fields in (1, 2):
            for wish in itertools.product(PAIRS, repeat=fields):
                self.both("wish", wish, show_wish)
        rng = by_words.dice(101)
        for time in range(2000):
            self.both("wish", by_words.any_wish(rng, 3), show_wish)

    def test_webs(self):
        rng = by_words.dice(102)
        for time in range(2000):
            self.both("web", by_words.any_web(rng, rng.randint(1, 8), rng.choice((0, 0.5, 0.9, 1))), show_web)

    def test_all_webs_of_up_to_four_houses(self):
        for many in range(1, 5):
            roads = list(itertools.combinations(range(many), 2))
            for size in range(len(roads) + 1):
                for some in itertools.combinations(roads, size):
                    text = " ".join(["%d" % many] + ["%d-%d" % road for road in some])
                    told = self.look("web", text)
                    self.assertEqual(told, None if by_words.has_ring(some) else (many, some))

    def test_by_hand(self):
        self.both("letter", (7,), show_letter, "7")
        self.both("letter", (0, 9, 3), show_letter, "0,9,3")
        self.both("wish", ((0, 4), (2, 2)), show_wish, "0-4,2-2")
        self.both("wish", ((5, 5),), show_wish, "5-5")
        self.both("web", (1, ()), show_web, "1")
        self.both("web", (8, ((0, 1), (0, 7), (2, 7))), show_web, "8 0-1 0-7 2-7")

    def test_somewhat_beyond_the_bounds(self):
        self.assertEqual(show_letter((10, 0, 3, 12)), "10,0,3,12")
        self.assertEqual(show_wish(((0, 12),) * 4), "0-12,0-12,0-12,0-12")
        self.assertEqual(show_web((12, ((0, 11),))), "12 0-11")


class Bent(Held):
    def any_text(self, rng, kind):
        fields = rng.randint(1, 3)
        if kind == "letter":
            return by_words.written(by_words.any_letter(rng, fields))
        if kind == "wish":
            return by_words.written(by_words.any_wish(rng, fields))
        return by_words.written(by_words.any_web(rng, rng.randint(1, 8)))

    def test_any_sign_at_any_place(self):
        rng = by_words.dice(103)
        seen = collections.Counter()
        for kind in READERS:
            for time in range(25):
                text = self.any_text(rng, kind)
                for place in range(len(text) + 1):
                    near = [text[:place] + sign + text[place:] for sign in SIGNS]
                    near += [text[:place] + sign + text[place + 1:] for sign in SIGNS]
                    near += [text[:place] + text[place + 1:], text[:place] + text[place:place + 1] * 2 + text[place + 1:]]
                    for one in near:
                        seen[kind, self.look(kind, one) is None] += 1
            for refused in (True, False):
                self.assertGreater(seen[kind, refused], 100, kind)

    def test_signs_put_together(self):
        rng = by_words.dice(104)
        for kind, signs in (("letter", "0123456789,,,, -"), ("wish", "0123456789,,--- "), ("web", "01234567889 --- ,")):
            for time in range(4000):
                self.look(kind, "".join(rng.choice(signs) for k in range(rng.randint(0, 12))))

    def test_short_texts_all(self):
        for kind in READERS:
            for long in range(4):
                for signs in itertools.product("0159,- \n", repeat=long):
                    self.look(kind, "".join(signs))

    def test_one_kind_is_not_another(self):
        rng = by_words.dice(105)
        for time in range(300):
            text = self.any_text(rng, rng.choice(list(READERS)))
            for kind in READERS:
                self.look(kind, text)

    def test_no_letter(self):
        for text in ("", " ", ",", "10", "00", "07", "-1", "+1", "1,", ",1", "1,,2", "1, 2", " 1", "1 ", "1\n", "\n1",
                     "1,2,3,4", "1;2", "1.0", "0x1", "1_0", "a", "1e0", "9" * 5000, "0" * 5000, "1,1" + "1" * 5000,
                     ",".join("1" * 5000), "None", "()", "(1,)"):
            self.assertIs(self.look("letter", text), None, text[:20])

    def test_no_wish(self):
        for text in ("", "-", "5", "5-", "-5", "5-4", "0-10", "00-4", "0-04", "0--4", "0-4-5", "0-4,", ",0-4", "0-4,,1-1",
                     "0-4, 1-1", "0-4 1-1", " 0-4", "0-4 ", "0-4\n", "0 - 4", "0-4,2-2,1-1,3-3", "0-4,5-2", "+0-4",
                     "0-" + "9" * 5000, "9" * 5000 + "-9", "0-4,3", "3,0-4", ",".join(["0-4"] * 5000)):
            self.assertIs(self.look("wish", text), None, text[:20])

    def test_no_web(self):
        for text in ("", " ", "0", "9", "08", "10", "3 ", " 3", "3  0-1", "3 0-1 ", "3 0-1  1-2", "3\n0-1", "3 0-1\n",
                     "3 1-0", "3 1-1", "3 0-3", "3 0-1 0-1", "3 1-2 0-1", "3 0-1 0-2 1-2", "3 0-1,1-2", "3,0-1", "3 0",
                     "3 0-1-2", "3 00-1", "3 0-01", "3 0--1", "-3", "+3", "3 -1-2", "4 0-1 0-3 1-2 2-3", "1 0-0",
                     "2 0-1 1-2", "3 0-10", "9" * 5000, "3 0-" + "9" * 5000, "3" + " 0-1" * 5000, "3 0-1 2"):
            self.assertIs(self.look("web", text), None, text[:20])

    def test_a_ring(self):
        rng = by_words.dice(106)
        rings = 0
        for time in range(400):
            many = rng.randint(3, 8)
            pairs = list(itertools.combinations(range(many), 2))
            roads = sorted(rng.sample(pairs, rng.randint(2, min(len(pairs), many))))
            if rng.random() < 0.2:
                rng.shuffle(roads)
            if rng.random() < 0.2:
                roads.insert(rng.randrange(len(roads)), rng.choice(roads))
            self.look("web", " ".join(["%d" % many] + ["%d-%d" % road for road in roads]))
            rings += by_words.has_ring(roads)
        self.assertGreater(rings, 50)


if __name__ == "__main__":
    unittest.main()
