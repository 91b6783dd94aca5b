"""What each house has heard when all is still, and where a letter is led by it."""

from roofpost.errors import NoHold
from roofpost.together import spare_of
from roofpost.webs import must_be_house, must_be_road, neighbours_of, way_between
from roofpost.wishes import has_letter, must_be_kin, roof_of


def short_of(how, wishes):
    if how == "spare":
        return spare_of(wishes)
    return roof_of(wishes)


def wishes_of(holds):
    return [hold[1] for hold in holds]


def table_of(web, holds, how, house, neighbour):
    must_be_kin(wishes_of(holds))
    must_be_road(web, house, neighbour)
    return heard_of(web, holds, how, house, neighbour)


def heard_of(web, holds, how, house, neighbour):
    wishes = wishes_of([hold for hold in holds if hold[0] == neighbour])
    for other in neighbours_of(web, neighbour):
        if other != house:
            wishes.extend(heard_of(web, holds, how, neighbour, other))
    return short_of(how, wishes)


def led_by(web, holds, how, house, letter):
    must_be_kin([letter] + wishes_of(holds))
    must_be_house(web, house)
    roads = sorted(roads_on(web, holds, how, None, house, letter))
    reached = [house] + [road[1] for road in roads]
    given = [k for k, hold in enumerate(holds) if hold[0] in reached and has_letter(hold[1], letter)]
    return (roads, given)


def roads_on(web, holds, how, came, house, letter):
    roads = []
    for neighbour in neighbours_of(web, house):
        if neighbour != came and len(leading(web, holds, how, house, neighbour, letter)) > 0:
            roads.append((house, neighbour))
            roads.extend(roads_on(web, holds, how, house, neighbour, letter))
    return roads


def leading(web, holds, how, house, neighbour, letter):
    return [wish for wish in heard_of(web, holds, how, house, neighbour) if has_letter(wish, letter)]


def chain_to(web, holds, how, house, letter, number):
    led = led_by(web, holds, how, house, letter)
    if not 0 <= number < len(holds):
        raise NoHold(f"there is no hold {number}")
    if number not in led[1]:
        return None
    way = way_between(web, house, holds[number][0])
    return [(one, other, leading(web, holds, how, one, other, letter)[0]) for one, other in zip(way, way[1:])]
