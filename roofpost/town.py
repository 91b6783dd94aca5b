"""A town: houses on roads, the deeds done there, and what is told of them."""

from roofpost.errors import NoHold, NoKin, NoLetter, NoStep, Ring
from roofpost.house import House
from roofpost.webs import must_be_house, must_be_road, neighbours_of, way_between


class Town:
    def __init__(self, many, fields, how):
        self.fields = fields
        self.how = how
        self.houses = [House(how) for k in range(many)]
        # Each road is two lanes, (from, to) and (to, from), each with the things under way on it.
        self.lanes = {}
        self.wished = 0
        self.gifts = []
        self.wishes_told = 0
        self.letters_told = 0

    def join(self, one, other):
        if way_between(self.roads(), one, other) is not None:
            raise Ring(f"there is a way between {one} and {other}")
        self.lanes[(one, other)] = []
        self.lanes[(other, one)] = []
        self.do(one, ("join", other))
        self.do(other, ("join", one))

    def cut(self, one, other):
        must_be_road(self.roads(), one, other)
        self.lose(one, other)
        self.do(one, ("cut", other))
        self.do(other, ("cut", one))

    def fall(self, house):
        neighbours = neighbours_of(self.roads(), house)
        self.houses[house] = House(self.how)
        for neighbour in neighbours:
            self.lose(house, neighbour)
            self.do(neighbour, ("cut", house))

    def back(self, number):
        homes = [hold[1] for hold in self.holds() if hold[0] == number]
        if len(homes) == 0:
            raise NoHold(f"no hold {number} stands")
        self.do(homes[0], ("back", number))

    def wish(self, house, wish):
        self.must_fit(house, wish)
        number = self.wished
        self.wished = number + 1
        self.do(house, ("wish", number, wish))
        return number

    def send(self, house, letter):
        self.must_fit(house, letter)
        number = len(self.gifts)
        self.gifts.append([])
        self.do(house, ("send", number, letter))
        return number

    def step(self, one, other):
        must_be_road(self.roads(), one, other)
        lane = self.lanes[(one, other)]
        if len(lane) == 0:
            raise NoStep(f"nothing is under way from {one} to {other}")
        thing = lane.pop(0)
        self.do(other, ("come", one, thing))
        return thing

    def roads(self):
        return (len(self.houses), tuple(sorted([lane for lane in self.lanes if lane[0] < lane[1]])))

    def holds(self):
        found = []
        for house, keeper in enumerate(self.houses):
            found.extend([(number, house, wish) for number, wish in keeper.own.items()])
        return sorted(found)

    def heard(self, house, neighbour):
        must_be_road(self.roads(), house, neighbour)
        return sorted(self.houses[house].hears[neighbour])

    def under_way(self, one, other):
        must_be_road(self.roads(), one, other)
        return list(self.lanes[(one, other)])

    def waiting(self):
        return sorted([lane for lane in self.lanes if len(self.lanes[lane]) > 0])

    def given(self, number):
        if not 0 <= number < len(self.gifts):
            raise NoLetter(f"no letter {number} was sent")
        return sorted(self.gifts[number])

    def counts(self):
        return (self.wishes_told, self.letters_told)

    def log(self, house):
        must_be_house(self.roads(), house)
        return list(self.houses[house].rows)

    def must_fit(self, house, thing):
        must_be_house(self.roads(), house)
        if len(thing) != self.fields:
            raise NoKin("it has not as many fields as the town")

    def lose(self, one, other):
        self.lanes.pop((one, other))
        self.lanes.pop((other, one))

    def do(self, house, deed):
        for row in self.houses[house].do(deed):
            if row[0] == "give":
                self.gifts[row[1]].extend(row[2])
            else:
                self.put(house, row[1], row[2])

    def put(self, house, neighbour, thing):
        self.lanes[(house, neighbour)].append(thing)
        if thing[0] == "letter":
            self.letters_told = self.letters_told + 1
        else:
            self.wishes_told = self.wishes_told + 1
