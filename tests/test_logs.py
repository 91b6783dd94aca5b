"""Points 19 and 20: logs of towns, logs that are bent, and each reason for which a row isn't so."""

import collections
import copy
import unittest

import by_words
from roofpost.errors import NoKin, NoLog
from roofpost.logs import judged, what_next
from roofpost.town import Town

FAR = 10 ** 59
HOWS = ("roof", "spare")
OTHER = {"roof": "spare", "spare": "roof"}
ALL = ((0, 9),)
LOW = ((0, 4),)
MIDST = ((3, 6),)
HIGH = ((5, 9),)


def drawn_logs(rng, many):
    """(way to make short, fields, greatest number, log) of houses of drawn towns."""
    for time in range(many):
        fields = rng.randint(1, 3)
        most = rng.choice((2, 4, 9) if fields == 1 else (1, 3))
        how = rng.choice(HOWS)
        words = rng.choice((by_words.DEEDS, ("join", "wish", "back", "send", "step"), ("join", "wish", "send", "step")))
        town = by_words.Town(rng.randint(2, 6), fields, how)
        real = Town(town.many, fields, how)
        for turn in range(rng.choice((15, 40, 80))):
            name, things = by_words.any_deed(rng, town, fields, most, words)
            try:
                getattr(town, name)(*things)
            except by_words.Refused:
                continue
            getattr(real, name)(*things)
        for house in range(town.many):
            yield how, fields, most, real.log(house)


def done_behind(log, place):
    """The rows from the place on that are no deeds, up to the next deed."""
    rows = []
    while place < len(log) and log[place][0] in ("tell", "give"):
        rows.append(log[place])
        place += 1
    return rows


class OfTowns(unittest.TestCase):
    def test_each_log_is_so_and_each_beginning_of_it(self):
        rng = by_words.dice(81)
        rows = collections.Counter()
        for how, fields, most, log in drawn_logs(rng, 100):
            self.assertIs(judged(how, log), None)
            for place in range(len(log) + 1):
                self.assertIs(judged(how, log[:place]), None)
                self.assertEqual(what_next(how, log[:place]), done_behind(log, place))
            rows.update((row[0], row[2][0]) if row[0] in ("come", "tell") else row[0] for row in log)
        for row in ("wish", "back", "join", "cut", "send", "give", ("come", "more"), ("come", "less"),
                    ("come", "letter"), ("tell", "more"), ("tell", "less"), ("tell", "letter")):
            self.assertGreater(rows[row], 30, row)

    def test_the_judge_of_the_tests_says_the_same(self):
        rng = by_words.dice(82)
        for how, fields, most, log in drawn_logs(rng, 25):
            self.assertEqual(by_words.judge(how, log), (None, None))

    def test_a_house_that_fell(self):
        for how in HOWS:
            town = Town(2, 1, how)
            town.join(0, 1)
            town.wish(0, LOW)
            town.fall(0)
            self.assertIs(judged(how, town.log(0)), None)
            town.join(1, 0)
            town.wish(0, HIGH)
            town.step(0, 1)
            self.assertEqual([judged(how, town.log(house)) for house in (0, 1)], [None, None])

    def test_an_empty_log(self):
        for how in HOWS:
            self.assertIs(judged(how, []), None)
            self.assertEqual(what_next(how, []), [])

    def test_judged_by_the_other_way(self):
        rng = by_words.dice(83)
        seen = collections.Counter()
        for how, fields, most, log in drawn_logs(rng, 150):
            number = judged(OTHER[how], log)
            self.assertEqual(number, by_words.judge(OTHER[how], log)[0])
            seen[how, number is None] += 1
        for how in HOWS:
            self.assertGreater(seen[how, False], 5, how)


def exchanged(rng, row, fields, most):
    """The row with one of its parts another one."""
    if row[0] in ("come", "tell") and rng.random() < 0.6:
        return row[:2] + (exchanged(rng, row[2], fields, most),)
    place = rng.randrange(len(row))
    part = row[place]
    if place == 0:
        likes = [words for words in (("wish", "send"), ("back", "join", "cut"), ("come", "tell"), ("more", "less"))
                 if part in words and part not in ("wish", "send")]
        return (rng.choice([word for word in likes[0] if word != part]),) + row[1:] if likes else row
    if isinstance(part, int):
        return row[:place] + (rng.choice((part + 1, part + 2, max(part - 1, 0), 0, FAR)),) + row[place + 1:]
    if row[0] == "give":
        holds = rng.choice((part[1:], part[:-1], part + (max(part, default=0) + 1,), part[::-1], part * 2, ()))
        return row[:place] + (holds,) + row[place + 1:]
    if row[0] in ("wish", "more", "less"):
        return row[:place] + (by_words.any_wish(rng, fields, 0, most),) + row[place + 1:]
    if row[0] in ("send", "letter"):
        return row[:place] + (by_words.any_letter(rng, fields, 0, most),) + row[place + 1:]
    return row


def bent(rng, log, fields, most):
    """A log with a fault, mostly, at a drawn place, and how it was bent."""
    rows = list(log)
    place, other = rng.randrange(len(log)), rng.randrange(len(log))
    how = rng.choice(("out", "twice", "again", "like", "neighbours", "two", "part", "part", "part", "deed"))
    if how == "out":
        rows.pop(place)
    elif how == "twice":
        rows.insert(place, log[place])
    elif how == "again":
        rows.insert(place, log[other])
    elif how == "like":
        letters = [row for row in log[:place] if row[0] == "come" and row[2][0] == "letter"]
        calm = [k for k in range(place, len(log)) if log[k][0] not in ("tell", "give")]
        rows.insert(rng.choice(calm or [place]), exchanged(rng, rng.choice(letters or log), fields, most))
    elif how == "neighbours" and place + 1 < len(log):
        rows[place], rows[place + 1] = log[place + 1], log[place]
    elif how == "two":
        rows[place], rows[other] = log[other], log[place]
    elif how == "part":
        rows[place] = exchanged(rng, log[place], fields, most)
    elif how == "deed":
        busy = [k for k, row in enumerate(log) if row[0] in ("tell", "give")]
        fresh = [("wish", FAR, by_words.any_wish(rng, fields, 0, most)), ("join", FAR),
                 ("send", FAR, by_words.any_letter(rng, fields, 0, most))]
        rows.insert(rng.choice(busy or [place]), rng.choice(fresh))
    return how, rows


class Held(unittest.TestCase):
    def hold(self, how, log):
        """Held against the judge of the tests, at the whole log and at a beginning; told is why it isn't so."""
        number, why = by_words.judge(how, log)
        told = judged(how, log)
        self.assertEqual((told, type(told)), (number, type(number)), (how, log))
        if number is None:
            self.assertEqual(what_next(how, log), by_words.to_do(how, log))
            return why
        self.refused(how, log, number)
        self.refused(how, log[:number + 1], number)
        self.assertIs(judged(how, log[:number]), None)
        self.assertEqual(what_next(how, log[:number]), by_words.to_do(how, log[:number]))
        return why

    def refused(self, how, log, number):
        self.assertEqual(judged(how, log), number)
        with self.assertRaises(NoLog) as seen:
            what_next(how, log)
        self.assertEqual((seen.exception.number, type(seen.exception.number)), (number, int))


class Bent(Held):
    def test_at_a_drawn_place(self):
        rng = by_words.dice(84)
        seen, wrong = collections.Counter(), collections.Counter()
        for how, fields, most, log in drawn_logs(rng, 300):
            for time in range(4 if log else 0):
                bend, rows = bent(rng, log, fields, most)
                why = self.hold(how, rows)
                seen[why] += 1
                wrong[bend] += why is not None
        self.assertEqual(set(seen), {
            None, "not what is to be done", "a deed too early", "wished ahead", "no hold", "joined ahead",
            "cut of no neighbour", "come of no neighbour", "heard ahead", "not heard", "sent ahead", "another letter"})
        for why in seen:
            self.assertGreater(seen[why], 3, why)
        for bend in ("out", "twice", "again", "like", "neighbours", "two", "part", "deed"):
            self.assertGreater(wrong[bend], 30, bend)

    def test_bent_twice(self):
        rng = by_words.dice(85)
        for how, fields, most, log in drawn_logs(rng, 25):
            if log:
                self.hold(how, bent(rng, bent(rng, log, fields, most)[1] or log, fields, most)[1])

    def any_row(self, rng, houses, numbers):
        wish, letter = by_words.any_wish(rng, 1, 0, 2), by_words.any_letter(rng, 1, 0, 1)
        number, house = rng.choice(numbers), rng.choice(houses)
        thing = rng.choice([("more", wish), ("less", wish), ("letter", number, letter)])
        return rng.choice([("wish", number, wish), ("back", number), ("join", house), ("cut", house),
                           ("send", number, letter), ("come", house, thing), ("come", house, thing)])

    def test_deeds_in_any_order_at_any_houses(self):
        # Deeds are drawn, what is to be done by them is mostly done; house numbers are whatever they are.
        rng = by_words.dice(86)
        seen = collections.Counter()
        for time in range(500):
            how = rng.choice(HOWS)
            houses, numbers = rng.sample((-FAR, -1, 0, 1, 7, 8, FAR), 3), rng.sample((0, 1, 2, 50, FAR), 3)
            log = []
            for turn in range(14):
                row = self.any_row(rng, houses, numbers)
                if by_words.fault(how, log, row) is None or rng.random() < 0.06:
                    log.append(row)
                    if by_words.judge(how, log)[0] is not None:
                        break
                    log += by_words.to_do(how, log)
            seen[self.hold(how, log)] += 1
        self.assertEqual(set(seen), {
            None, "wished ahead", "no hold", "joined ahead", "cut of no neighbour", "come of no neighbour",
            "heard ahead", "not heard", "sent ahead", "another letter"})


class Alone(Held):
    """Each reason by itself: the log that is so but for its last row, and that row mended."""

    def only(self, why, log, row, mended):
        for how in HOWS:
            self.assertIs(judged(how, log), None)
            self.assertEqual(self.hold(how, log + [row]), why, how)
            # What stands behind the first one doesn't count, be it so or not.
            self.refused(how, log + [row, row], len(log))
            self.refused(how, log + [row, ("wish", 90, ALL)], len(log))
            self.assertIs(judged(how, log + [mended]), None, how)

    def test_not_what_is_to_be_done(self):
        log = [("join", 1), ("wish", 0, LOW)]
        done = ("tell", 1, ("more", LOW))
        for row in (("tell", 1, ("more", HIGH)), ("tell", 1, ("less", LOW)), ("tell", 2, ("more", LOW)),
                    ("tell", 1, ("letter", 0, (3,))), ("give", 0, ())):
            self.only("not what is to be done", log, row, done)
        log = [("wish", 3, LOW), ("wish", 1, MIDST), ("send", 0, (4,))]
        done = ("give", 0, (1, 3))
        for row in (("give", 1, (1, 3)), ("give", 0, (3, 1)), ("give", 0, (1,)), ("give", 0, ()),
                    ("give", 0, (1, 3, 4)), ("give", 0, (1, 1, 3)), ("tell", 0, ("letter", 0, (4,)))):
            self.only("not what is to be done", log, row, done)

    def test_something_done_where_nothing_is_to_be_done(self):
        self.only("not what is to be done", [], ("give", 0, ()), ("join", 0))
        self.only("not what is to be done", [("join", 1)], ("tell", 1, ("more", LOW)), ("cut", 1))
        log = [("join", 1), ("wish", 0, LOW), ("tell", 1, ("more", LOW))]
        self.only("not what is to be done", log, log[-1], ("wish", 1, LOW))
        self.only("not what is to be done", [("send", 0, (3,)), ("give", 0, ())], ("give", 0, ()), ("join", 0))

    def test_the_order_of_what_is_done(self):
        log = [("join", 5), ("join", 2), ("wish", 0, LOW)]
        self.only("not what is to be done", log, ("tell", 5, ("more", LOW)), ("tell", 2, ("more", LOW)))
        log = [("wish", 0, ((2, 2),)), ("wish", 1, ((4, 4),)), ("join", 1)]
        log += [("tell", 1, ("more", ((2, 2),))), ("tell", 1, ("more", ((4, 4),)))]
        tells = [("tell", 1, ("more", ((2, 4),))), ("tell", 1, ("less", ((2, 2),))), ("tell", 1, ("less", ((4, 4),)))]
        log += [("wish", 2, ((2, 4),))]
        for how in HOWS:
            self.assertEqual(what_next(how, log), tells)
        self.only("not what is to be done", log, tells[1], tells[0])
        self.only("not what is to be done", log + tells[:1], tells[2], tells[1])
        log = [("join", 1), ("come", 1, ("more", LOW)), ("wish", 0, LOW), ("tell", 1, ("more", LOW)), ("send", 0, (3,))]
        self.only("not what is to be done", log, ("tell", 1, ("letter", 0, (3,))), ("give", 0, (0,)))

    def test_a_letter_does_not_go_back(self):
        log = [("join", 1), ("join", 2), ("come", 1, ("more", LOW)), ("tell", 2, ("more", LOW)),
               ("come", 2, ("more", LOW)), ("tell", 1, ("more", LOW)), ("come", 1, ("letter", 0, (3,))), ("give", 0, ())]
        self.only("not what is to be done", log, ("tell", 1, ("letter", 0, (3,))), ("tell", 2, ("letter", 0, (3,))))

    def test_a_deed_while_something_is_to_be_done(self):
        for row in (("wish", 1, LOW), ("back", 0), ("join", 2), ("cut", 1), ("send", 0, (3,)),
                    ("come", 1, ("more", LOW)), ("come", 1, ("letter", 0, (3,)))):
            log = [("join", 1), ("wish", 0, LOW)]
            self.only("a deed too early", log, row, ("tell", 1, ("more", LOW)))
            log = [("join", 1), ("wish", 0, LOW), ("tell", 1, ("more", LOW)), ("send", 7, (3,))]
            self.only("a deed too early", log, row, ("give", 7, (0,)))

    def test_a_wish_of_a_number_that_was_wished(self):
        for log in ([("wish", 4, LOW)], [("wish", 4, LOW), ("back", 4)], [("wish", 4, LOW), ("wish", 2, ALL)]):
            for wish in (LOW, HIGH):
                self.only("wished ahead", log, ("wish", 4, wish), ("wish", 5, wish))

    def test_a_back_of_one_that_does_not_stand(self):
        for log in ([], [("send", 4, (3,)), ("give", 4, ())], [("join", 4)], [("wish", 4, LOW), ("back", 4)]):
            self.only("no hold", log, ("back", 4), ("wish", 6, LOW))
        self.only("no hold", [("wish", 4, LOW)], ("back", 0), ("back", 4))

    def test_a_join_of_a_neighbour(self):
        self.only("joined ahead", [("join", 3)], ("join", 3), ("join", 2))
        self.only("joined ahead", [("join", 3), ("cut", 3), ("join", 3)], ("join", 3), ("cut", 3))
        self.assertIs(judged("roof", [("join", 3), ("cut", 3), ("join", 3)]), None)

    def test_a_cut_or_a_come_of_what_is_no_neighbour(self):
        for log in ([], [("join", 3), ("cut", 3)], [("join", 2), ("join", 4)]):
            self.only("cut of no neighbour", log, ("cut", 3), ("join", 3))
            for thing in (("more", LOW), ("less", LOW), ("letter", 0, (3,))):
                self.only("come of no neighbour", log, ("come", 3, thing), ("join", 3))

    def test_a_more_of_a_wish_that_is_heard(self):
        log = [("join", 1), ("come", 1, ("more", LOW))]
        self.only("heard ahead", log, ("come", 1, ("more", LOW)), ("come", 1, ("more", HIGH)))
        # Heard is by road, and what is taken back or cut isn't heard any more.
        for log in ([("join", 1), ("join", 2), ("come", 1, ("more", LOW)), ("tell", 2, ("more", LOW)),
                     ("come", 2, ("more", LOW))],
                    [("join", 1), ("come", 1, ("more", LOW)), ("come", 1, ("less", LOW)), ("come", 1, ("more", LOW))],
                    [("join", 1), ("come", 1, ("more", LOW)), ("cut", 1), ("join", 1), ("come", 1, ("more", LOW))]):
            for how in HOWS:
                self.assertIs(judged(how, log), None)

    def test_a_less_of_a_wish_that_is_not_heard(self):
        self.only("not heard", [("join", 1)], ("come", 1, ("less", LOW)), ("come", 1, ("more", LOW)))
        log = [("join", 1), ("come", 1, ("more", ALL))]
        self.only("not heard", log, ("come", 1, ("less", LOW)), ("come", 1, ("less", ALL)))
        self.only("not heard", [("join", 1), ("wish", 0, LOW), ("tell", 1, ("more", LOW))],
                  ("come", 1, ("less", LOW)), ("come", 1, ("more", LOW)))
        log = [("join", 1), ("come", 1, ("more", LOW)), ("cut", 1), ("join", 1)]
        self.only("not heard", log, ("come", 1, ("less", LOW)), ("come", 1, ("more", LOW)))

    def test_a_send_of_a_number_that_stood(self):
        log = [("send", 3, (4,)), ("give", 3, ())]
        for letter in ((4,), (5,)):
            self.only("sent ahead", log, ("send", 3, letter), ("send", 2, letter))
            self.only("sent ahead", [("join", 1), ("come", 1, ("letter", 3, (4,))), ("give", 3, ())],
                      ("send", 3, letter), ("send", 4, letter))

    def test_a_come_of_a_number_that_stood_with_another_letter(self):
        for log in ([("join", 1), ("send", 3, (4,)), ("give", 3, ())],
                    [("join", 1), ("come", 1, ("letter", 3, (4,))), ("give", 3, ())],
                    [("join", 1), ("join", 2), ("come", 2, ("letter", 3, (4,))), ("give", 3, ()),
                     ("come", 1, ("letter", 3, (4,)))]):
            self.only("another letter", log, ("come", 1, ("letter", 3, (5,))), ("come", 1, ("letter", 3, (4,))))
            self.assertEqual(what_next("roof", log + [("come", 1, ("letter", 3, (4,)))]), [])

    def test_numbers_of_holds_letters_and_houses_are_apart(self):
        log = [("join", 3), ("wish", 3, LOW), ("tell", 3, ("more", LOW)), ("send", 3, (4,)), ("give", 3, (3,)),
               ("back", 3), ("tell", 3, ("less", LOW)), ("cut", 3)]
        for how in HOWS:
            self.assertIs(judged(how, log), None)


class Handed(unittest.TestCase):
    def test_the_list_stays(self):
        rng = by_words.dice(87)
        for how, fields, most, log in drawn_logs(rng, 30):
            for rows in (log, bent(rng, log, fields, most)[1] if log else []):
                ahead = copy.deepcopy(rows)
                judged(how, rows)
                try:
                    what_next(how, rows)
                except NoLog:
                    pass
                self.assertEqual(rows, ahead)

    def test_what_is_told_is_the_askers_own(self):
        log = [("join", 1), ("wish", 0, LOW)]
        asked = [("tell", 1, ("more", LOW))]
        told = what_next("roof", log)
        self.assertEqual((told, type(told)), (asked, list))
        told.append("spoilt")
        self.assertEqual(what_next("roof", log), asked)
        self.assertEqual(log, [("join", 1), ("wish", 0, LOW)])
        empty = what_next("roof", [])
        empty.append("spoilt")
        self.assertEqual(what_next("roof", []), [])

    def test_unlike_many_fields(self):
        kin = [("wish", 0, LOW), ("join", 1), ("tell", 1, ("more", LOW))]
        for row in (("wish", 1, LOW + LOW), ("send", 0, (3, 3)), ("come", 1, ("more", LOW + LOW)),
                    ("come", 1, ("letter", 0, (3, 3))), ("tell", 1, ("less", LOW + LOW)),
                    ("tell", 1, ("letter", 0, (3, 3)))):
            for log in (kin + [row], [row] + kin, kin + [("back", 7), row]):
                for function in (judged, what_next):
                    with self.assertRaises(NoKin):
                        function("roof", log)


if __name__ == "__main__":
    unittest.main()
