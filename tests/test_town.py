"""Points 14 to 19, held after each deed against a town that is kept by the document's words."""

import itertools
import unittest

import by_words
from roofpost import errors
from roofpost.town import Town

FAR = 10 ** 59
HOWS = ("roof", "spare")
ALL = ((0, 9),)
LOW = ((0, 4),)
HIGH = ((5, 9),)
MIDST = ((3, 6),)


def all_told(town, letters):
    """All that a town tells of itself, but for what it refuses."""
    many, roads = town.roads()
    told = {"roads": (many, roads), "holds": town.holds(), "waiting": town.waiting(), "counts": town.counts()}
    for road in roads:
        for one, other in (road, road[::-1]):
            told["heard", one, other] = town.heard(one, other)
            told["under way", one, other] = town.under_way(one, other)
    for number in range(letters):
        told["given", number] = town.given(number)
    for house in range(many):
        told["log", house] = town.log(house)
    return told


def answer(town, deed):
    """What a deed answers: ("told", thing), or ("refused", the name of its class)."""
    name, things = deed
    try:
        return ("told", getattr(town, name)(*things))
    except by_words.Refused as refusal:
        return ("refused", str(refusal))
    except errors.RoofError as refusal:
        return ("refused", type(refusal).__name__)


def of_roads(many, roads, how="roof", fields=1):
    town = Town(many, fields, how)
    for one, other in roads:
        town.join(one, other)
    return town


def still(town):
    while town.waiting():
        town.step(*town.waiting()[0])


class Pair:
    """A town and the one that it is held against, led through the same deeds."""

    def __init__(self, test, rng, many=None, fields=None, most=None):
        self.test, self.rng = test, rng
        self.many = many or rng.randint(1, 8)
        self.fields = fields or rng.randint(1, 3)
        self.most = rng.choice((1, 4, 9) if self.fields == 1 else (1, 3)) if most is None else most
        self.how = rng.choice(HOWS)
        self.town = Town(self.many, self.fields, self.how)
        self.twin = by_words.Town(self.many, self.fields, self.how)
        self.letters = 0
        self.seen = []

    def hold(self, deed):
        told, asked = answer(self.town, deed), answer(self.twin, deed)
        self.test.assertEqual(told, asked, deed)
        self.test.assertIs(type(told[1]), type(asked[1]), deed)
        self.letters += deed[0] == "send" and told[0] == "told"
        self.seen.append((deed[0], told[1] if told[0] == "refused" else "done"))
        self.look()

    def look(self):
        told, asked = all_told(self.town, self.letters), all_told(self.twin, self.letters)
        self.test.assertEqual(told, asked)
        for name, thing in asked.items():
            self.test.assertIs(type(told[name]), type(thing), name)

    def draw(self, words=by_words.DEEDS):
        ahead = all_told(self.town, self.letters)
        self.hold(by_words.any_deed(self.rng, self.twin, self.fields, self.most, words))
        if self.seen[-1][1] != "done":
            self.test.assertEqual(all_told(self.town, self.letters), ahead)

    def spoil(self):
        """What is told is changed; nothing that is told later may turn by it."""
        for told in by_words.lists_in(list(all_told(self.town, self.letters).values())):
            told.append("spoilt")
            told.reverse()
        self.look()


class Drawn(unittest.TestCase):
    def test_rows_of_deeds(self):
        rng = by_words.dice(51)
        seen = []
        lost = fallen = 0
        for time in range(400):
            pair = Pair(self, rng)
            for deed in range(rng.choice((20, 60, 120))):
                ahead = all_told(pair.twin, pair.letters)
                pair.draw()
                busy = [key[1:] for key, things in ahead.items() if key[0] == "under way" and things]
                gone = [one for one in busy if tuple(sorted(one)) not in pair.twin.roads()[1]]
                lost += len(gone) > 0
                fallen += pair.seen[-1] == ("fall", "done") and len(gone) > 0
            seen += pair.seen
            pair.spoil()
        for word in by_words.DEEDS:
            self.assertGreater(seen.count((word, "done")), 50, word)
            self.assertGreater(seen.count((word, "NoHouse")) + seen.count((word, "NoHold")), 5, word)
        for refusal in (("join", "Ring"), ("cut", "NoRoad"), ("step", "NoRoad"), ("step", "NoStep"), ("wish", "NoKin"),
                        ("send", "NoKin")):
            self.assertGreater(seen.count(refusal), 5, refusal)
        self.assertGreater(lost, 50)
        self.assertGreater(fallen, 10)

    def test_letters_that_come_twice(self):
        # Wishes stand everywhere and are told at once, while letters stay under way and roads are laid otherwise.
        rng = by_words.dice(54)
        twice = 0
        for time in range(60):
            pair = Pair(self, rng, rng.randint(3, 5), 1, 0)
            for house in range(pair.many):
                pair.hold(("wish", (house, ((0, 0),))))
            for turn in range(40):
                if rng.random() < 0.3 and pair.twin.roads()[1]:
                    pair.hold(("cut", rng.choice(pair.twin.roads()[1])))
                pairs = itertools.permutations(range(pair.many), 2)
                parted = [ends for ends in pairs if by_words.way(pair.twin.roads(), *ends) is None]
                if parted:
                    pair.hold(("join", rng.choice(parted)))
                if rng.random() < 0.3:
                    pair.hold(("send", (rng.randrange(pair.many), (0,))))
                twice += self.step_on(pair)
        self.assertGreater(twice, 20)

    def step_on(self, pair):
        """All wishes that can be, and one letter; whether it came to a house that had it."""
        for lane in list(pair.twin.waiting()) * 3:
            while pair.twin.under_way(*lane) and pair.twin.under_way(*lane)[0][0] != "letter":
                pair.hold(("step", lane))
        letters = [lane for lane in pair.twin.waiting() if pair.twin.under_way(*lane)[0][0] == "letter"]
        if not letters:
            return False
        lane = pair.rng.choice(letters)
        pair.hold(("step", lane))
        return pair.twin.log(lane[1])[-1][0] == "come"

    def test_two_towns_by_turns(self):
        rng = by_words.dice(52)
        for time in range(25):
            pairs = [Pair(self, rng), Pair(self, rng), Pair(self, rng)]
            for deed in range(60):
                rng.choice(pairs).draw()
                for pair in pairs:
                    pair.look()

    def test_two_towns_alike(self):
        towns = [Town(3, 1, "roof"), Town(3, 1, "roof")]
        towns[0].join(0, 1)
        towns[0].wish(0, ALL)
        towns[0].send(0, (3,))
        self.assertEqual(all_told(towns[1], 0), all_told(Town(3, 1, "roof"), 0))
        self.assertEqual(towns[1].wish(0, ALL), 0)
        self.assertEqual(towns[1].send(0, (3,)), 0)

    def test_changed_lists_turn_nothing(self):
        rng = by_words.dice(53)
        for time in range(25):
            pair = Pair(self, rng)
            for deed in range(40):
                pair.draw()
                pair.spoil()

    def test_somewhat_beyond_the_bounds(self):
        for how in HOWS:
            town = of_roads(12, [(k, k + 1) for k in range(11)], how, 4)
            town.wish(0, ((0, 12),) * 4)
            town.wish(5, ((2, 3),) * 4)
            still(town)
            number = town.send(11, (2, 2, 2, 2))
            still(town)
            self.assertEqual(town.given(number), [0, 1])


class Begun(unittest.TestCase):
    def test_a_new_town(self):
        for how in HOWS:
            for many in range(1, 9):
                town = Town(many, 2, how)
                self.assertEqual(town.roads(), (many, ()))
                self.assertEqual((town.holds(), town.waiting(), town.counts()), ([], [], (0, 0)))
                self.assertEqual([town.log(house) for house in range(many)], [[]] * many)

    def test_roads_rise_however_they_were_joined(self):
        for order in itertools.permutations([(3, 1), (0, 1), (2, 1)]):
            self.assertEqual(of_roads(4, order).roads(), (4, ((0, 1), (1, 2), (1, 3))))


class Told(unittest.TestCase):
    """What a house tells its neighbours, and in what order."""

    def test_a_wish_is_told_to_all_neighbours(self):
        town = of_roads(4, [(1, 3), (1, 0), (1, 2)])
        self.assertEqual(town.wish(1, LOW), 0)
        for other in (0, 2, 3):
            self.assertEqual(town.under_way(1, other), [("more", LOW)])
            self.assertEqual(town.under_way(other, 1), [])
        self.assertEqual(town.waiting(), [(1, 0), (1, 2), (1, 3)])
        self.assertEqual(town.counts(), (3, 0))
        self.assertEqual(town.log(1), [("join", 3), ("join", 0), ("join", 2), ("wish", 0, LOW)]
                         + [("tell", other, ("more", LOW)) for other in (0, 2, 3)])

    def test_what_comes_goes_on_but_not_back(self):
        town = of_roads(3, [(0, 1), (1, 2)])
        town.wish(0, LOW)
        self.assertEqual(town.step(0, 1), ("more", LOW))
        self.assertEqual(town.heard(1, 0), [LOW])
        self.assertEqual(town.heard(0, 1), [])
        self.assertEqual(town.waiting(), [(1, 2)])
        self.assertEqual(town.log(1)[-2:], [("come", 0, ("more", LOW)), ("tell", 2, ("more", LOW))])
        self.assertEqual(town.step(1, 2), ("more", LOW))
        self.assertEqual(town.waiting(), [])

    def test_more_goes_ahead_of_less_each_rising(self):
        for how in HOWS:
            town = of_roads(2, [(0, 1)], how)
            for wish in (((4, 4),), ((2, 2),)):
                town.wish(0, wish)
            town.wish(0, ((2, 4),))
            self.assertEqual(town.under_way(0, 1), [
                ("more", ((4, 4),)), ("more", ((2, 2),)),
                ("more", ((2, 4),)), ("less", ((2, 2),)), ("less", ((4, 4),))])
            town.back(2)
            self.assertEqual(town.under_way(0, 1)[5:], [
                ("more", ((2, 2),)), ("more", ((4, 4),)), ("less", ((2, 4),))])
            self.assertEqual(town.counts(), (8, 0))

    def test_each_neighbour_has_its_own_due(self):
        town = of_roads(3, [(0, 1), (1, 2)])
        town.wish(0, LOW)
        town.wish(2, ((0, 3),))
        still(town)
        self.assertEqual(town.heard(0, 1), [((0, 3),)])
        self.assertEqual(town.heard(2, 1), [LOW])

    def test_short_by_the_towns_way(self):
        for how, asked in (("roof", [LOW, MIDST, HIGH]), ("spare", [LOW, HIGH])):
            town = of_roads(2, [(0, 1)], how)
            for wish in (LOW, MIDST, HIGH):
                town.wish(0, wish)
            still(town)
            self.assertEqual(town.heard(1, 0), asked)

    def test_a_wish_that_is_told_by_now(self):
        town = of_roads(2, [(0, 1)])
        for wish in (LOW, LOW, ((1, 2),)):
            town.wish(0, wish)
        self.assertEqual(town.under_way(0, 1), [("more", LOW)])
        town.back(0)
        self.assertEqual(town.under_way(0, 1), [("more", LOW)])
        town.back(1)
        self.assertEqual(town.under_way(0, 1), [("more", LOW), ("more", ((1, 2),)), ("less", LOW)])

    def test_a_road_that_is_joined_tells_all_that_is_due(self):
        town = Town(3, 1, "roof")
        town.wish(0, HIGH)
        town.wish(0, LOW)
        town.join(2, 0)
        self.assertEqual(town.under_way(0, 2), [("more", LOW), ("more", HIGH)])
        self.assertEqual(town.under_way(2, 0), [])
        self.assertEqual(town.log(2), [("join", 0)])


class Cut(unittest.TestCase):
    def test_what_is_under_way_is_lost_but_counted(self):
        town = of_roads(2, [(0, 1)])
        town.wish(0, LOW)
        still(town)
        town.send(1, (3,))
        town.wish(1, HIGH)
        self.assertEqual(town.under_way(1, 0), [("letter", 0, (3,)), ("more", HIGH)])
        self.assertEqual(town.counts(), (2, 1))
        town.cut(1, 0)
        self.assertEqual((town.roads(), town.waiting(), town.counts()), ((2, ()), [], (2, 1)))
        town.join(0, 1)
        self.assertEqual(town.under_way(1, 0), [("more", HIGH)])
        self.assertEqual(town.under_way(0, 1), [("more", LOW)])
        self.assertEqual((town.heard(0, 1), town.heard(1, 0), town.counts()), ([], [], (4, 1)))

    def test_what_was_heard_there_is_taken_back_elsewhere(self):
        for ends in ((0, 1), (1, 0)):
            town = of_roads(3, [(0, 1), (1, 2)])
            town.wish(0, LOW)
            still(town)
            town.cut(*ends)
            self.assertEqual(town.waiting(), [(1, 2)])
            self.assertEqual(town.under_way(1, 2), [("less", LOW)])
            self.assertEqual(town.log(1)[-2:], [("cut", 0), ("tell", 2, ("less", LOW))])
            self.assertEqual(town.log(0)[-1], ("cut", 1))

    def test_other_roads_stand(self):
        town = of_roads(4, [(0, 1), (1, 2), (2, 3)])
        town.wish(1, LOW)
        town.wish(2, HIGH)
        town.cut(1, 2)
        self.assertEqual(town.roads(), (4, ((0, 1), (2, 3))))
        self.assertEqual(town.under_way(1, 0), [("more", LOW)])
        self.assertEqual(town.under_way(2, 3), [("more", HIGH)])


class Fall(unittest.TestCase):
    def test_all_that_it_keeps_is_gone(self):
        town = of_roads(4, [(0, 1), (1, 2), (2, 3)])
        town.wish(1, LOW)
        town.wish(3, HIGH)
        still(town)
        town.fall(1)
        self.assertEqual(town.roads(), (4, ((2, 3),)))
        self.assertEqual(town.holds(), [(1, 3, HIGH)])
        self.assertEqual(town.log(1), [])
        self.assertEqual(town.log(0)[-1], ("cut", 1))
        self.assertEqual(town.log(2)[-2:], [("cut", 1), ("tell", 3, ("less", LOW))])
        self.assertEqual(town.waiting(), [(2, 3)])
        self.assertEqual(town.wish(1, LOW), 2)
        self.assertEqual(town.log(1), [("wish", 2, LOW)])

    def test_a_house_alone(self):
        town = Town(2, 1, "roof")
        town.wish(0, LOW)
        town.fall(0)
        town.fall(0)
        self.assertEqual((town.holds(), town.log(0)), ([], []))

    def test_its_holds_are_not_taken_back_again(self):
        town = Town(2, 1, "roof")
        town.wish(0, LOW)
        town.fall(0)
        with self.assertRaises(errors.NoHold):
            town.back(0)

    def test_it_has_a_letter_anew(self):
        town = of_roads(3, [(0, 1), (1, 2)])
        town.wish(0, LOW)
        town.wish(2, LOW)
        still(town)
        self.assertEqual(town.send(1, (3,)), 0)
        town.step(1, 0)
        self.assertEqual(town.given(0), [0])
        town.fall(0)
        town.join(0, 2)
        self.assertEqual(town.wish(0, LOW), 2)
        town.step(0, 2)
        self.assertEqual(town.given(0), [0])
        still(town)
        self.assertEqual(town.given(0), [0, 1, 2])
        self.assertIn(("give", 0, (2,)), town.log(0))

    def test_it_is_a_house_still(self):
        town = of_roads(2, [(0, 1)])
        town.fall(0)
        town.join(1, 0)
        town.wish(0, LOW)
        still(town)
        self.assertEqual(town.heard(1, 0), [LOW])


class Holds(unittest.TestCase):
    def test_numbers(self):
        town = Town(2, 1, "roof")
        self.assertEqual([town.wish(house, LOW) for house in (1, 0, 1)], [0, 1, 2])
        town.back(2)
        with self.assertRaises(errors.NoHouse):
            town.wish(2, LOW)
        with self.assertRaises(errors.NoKin):
            town.wish(0, LOW + LOW)
        self.assertEqual(town.wish(0, HIGH), 3)
        self.assertEqual(town.holds(), [(0, 1, LOW), (1, 0, LOW), (3, 0, HIGH)])

    def test_taken_back_once(self):
        town = Town(1, 1, "roof")
        for number in (-FAR, -1, 0, 1, FAR):
            with self.assertRaises(errors.NoHold):
                town.back(number)
        town.wish(0, LOW)
        self.assertIs(town.back(0), None)
        self.assertEqual(town.holds(), [])
        for number in (-FAR, -1, 0, 1, FAR):
            with self.assertRaises(errors.NoHold):
                town.back(number)
        self.assertEqual(town.log(0), [("wish", 0, LOW), ("back", 0)])


class Letters(unittest.TestCase):
    def test_numbers(self):
        town = Town(2, 1, "roof")
        self.assertEqual([town.send(house, (3,)) for house in (1, 0, 1)], [0, 1, 2])
        for house, letter in ((2, (3,)), (-1, (3,)), (0, (3, 3)), (5, (3, 3))):
            with self.assertRaises((errors.NoHouse, errors.NoKin)):
                town.send(house, letter)
        self.assertEqual(town.send(0, (3,)), 3)
        self.assertEqual(town.wish(0, LOW), 0)

    def test_given_in_the_first_house(self):
        town = Town(1, 1, "roof")
        for wish in (HIGH, LOW, MIDST, LOW):
            town.wish(0, wish)
        town.back(3)
        self.assertEqual(town.send(0, (4,)), 0)
        self.assertEqual(town.given(0), [1, 2])
        self.assertEqual(town.log(0)[-2:], [("send", 0, (4,)), ("give", 0, (1, 2))])

    def test_a_letter_that_none_wishes(self):
        town = of_roads(2, [(0, 1)])
        town.send(0, (3,))
        self.assertEqual((town.given(0), town.waiting(), town.counts()), ([], [], (0, 0)))
        self.assertEqual(town.log(0)[-2:], [("send", 0, (3,)), ("give", 0, ())])

    def test_given_first_then_told_rising_but_not_back(self):
        town = of_roads(5, [(2, 4), (2, 0), (2, 1), (2, 3)])
        for house in (0, 1, 2, 4):
            town.wish(house, LOW)
        town.wish(3, HIGH)
        still(town)
        town.send(1, (3,))
        town.step(1, 2)
        self.assertEqual(town.log(2)[-4:], [
            ("come", 1, ("letter", 0, (3,))), ("give", 0, (2,)),
            ("tell", 0, ("letter", 0, (3,))), ("tell", 4, ("letter", 0, (3,)))])
        self.assertEqual(town.under_way(2, 1), [])
        self.assertEqual(town.given(0), [1, 2])
        still(town)
        self.assertEqual(town.given(0), [0, 1, 2, 3])
        self.assertEqual(town.counts()[1], 3)

    def test_a_letter_that_comes_twice(self):
        # House 2 has it of 1; then it hangs on 0, which has it of 1 only now and tells it on.
        town = of_roads(3, [(0, 1), (1, 2)])
        town.wish(2, LOW)
        town.wish(0, LOW)
        still(town)
        town.send(1, (3,))
        town.step(1, 2)
        town.cut(1, 2)
        town.join(2, 0)
        town.step(2, 0)
        self.assertEqual(town.under_way(1, 0), [("letter", 0, (3,)), ("less", LOW)])
        town.step(1, 0)
        self.assertEqual(town.under_way(0, 2)[-1], ("letter", 0, (3,)))
        ahead = town.log(2)
        while town.under_way(0, 2):
            thing = town.step(0, 2)
        self.assertEqual(thing, ("letter", 0, (3,)))
        self.assertEqual(town.log(2)[-1], ("come", 0, ("letter", 0, (3,))))
        self.assertEqual(town.log(2).count(("give", 0, (0,))), 1)
        self.assertEqual(town.log(2)[:len(ahead)], ahead)
        self.assertEqual(town.given(0), [0, 1])

    def test_given_holds_stay_told(self):
        town = Town(2, 1, "roof")
        town.wish(0, LOW)
        town.wish(0, LOW)
        town.send(0, (3,))
        town.back(0)
        self.assertEqual(town.given(0), [0, 1])
        town.fall(0)
        self.assertEqual(town.given(0), [0, 1])
        town.wish(0, LOW)
        self.assertEqual(town.given(0), [0, 1])

    def test_a_wish_that_comes_late(self):
        town = Town(1, 1, "roof")
        town.send(0, (3,))
        town.wish(0, LOW)
        self.assertEqual(town.given(0), [])


class Refusals(unittest.TestCase):
    def setUp(self):
        self.town = of_roads(4, [(0, 1), (1, 2)], "roof", 2)
        self.town.wish(0, LOW + LOW)
        still(self.town)
        self.town.wish(2, HIGH + HIGH)
        self.town.send(1, (3, 3))

    def refused(self, error, name, *things):
        ahead = all_told(self.town, 1)
        with self.assertRaises(error) as seen:
            getattr(self.town, name)(*things)
        self.assertIs(type(seen.exception), error, (name, things))
        self.assertEqual(all_told(self.town, 1), ahead)

    def test_no_house(self):
        for house in (-FAR, -4, -1, 4, 5, FAR):
            for name in ("fall", "log"):
                self.refused(errors.NoHouse, name, house)
            for name in ("join", "cut", "step", "heard", "under_way"):
                for other in (0, 1, 3, house, 9):
                    self.refused(errors.NoHouse, name, house, other)
                    self.refused(errors.NoHouse, name, other, house)
            for fields in (1, 2, 3):
                self.refused(errors.NoHouse, "wish", house, LOW * fields)
                self.refused(errors.NoHouse, "send", house, (3,) * fields)

    def test_no_road(self):
        for one, other in ((0, 2), (2, 0), (0, 3), (3, 3), (1, 1)):
            for name in ("cut", "step", "heard", "under_way"):
                self.refused(errors.NoRoad, name, one, other)

    def test_ring(self):
        for one, other in ((0, 1), (1, 0), (0, 2), (2, 0), (3, 3), (0, 0)):
            self.refused(errors.Ring, "join", one, other)
        self.assertIs(self.town.join(3, 2), None)

    def test_no_kin(self):
        for fields in (1, 3):
            self.refused(errors.NoKin, "wish", 0, LOW * fields)
            self.refused(errors.NoKin, "send", 0, (3,) * fields)

    def test_no_step(self):
        self.assertEqual(self.town.waiting(), [(1, 0), (2, 1)])
        self.refused(errors.NoStep, "step", 0, 1)
        self.refused(errors.NoStep, "step", 1, 2)
        self.assertEqual(self.town.step(1, 0), ("letter", 0, (3, 3)))
        self.refused(errors.NoStep, "step", 1, 0)

    def test_no_hold(self):
        for number in (-FAR, -2, -1, 2, 3, FAR):
            self.refused(errors.NoHold, "back", number)

    def test_no_letter(self):
        for number in (-FAR, -1, 1, 2, FAR):
            self.refused(errors.NoLetter, "given", number)

    def test_nothing_is_told_by_deeds_that_tell_nothing(self):
        for name, things in (("join", (3, 2)), ("cut", (3, 2)), ("back", (0,)), ("fall", (1,))):
            self.assertIs(getattr(self.town, name)(*things), None, name)


if __name__ == "__main__":
    unittest.main()
