"""Webs of houses and roads without a ring: neighbours, ways, and the houses behind a road."""

from roofpost.errors import NoHouse, NoRoad
from roofpost.wishes import is_whole

MOST_HOUSES = 8


def is_web(thing):
    if not isinstance(thing, tuple) or len(thing) != 2:
        return False
    many = thing[0]
    roads = thing[1]
    if not is_whole(many) or not 1 <= many <= MOST_HOUSES or not isinstance(roads, tuple):
        return False
    if not all([is_road(many, road) for road in roads]):
        return False
    return list(roads) == sorted(set(roads)) and not has_ring(many, roads)


def is_road(many, thing):
    if not isinstance(thing, tuple) or len(thing) != 2:
        return False
    return is_whole(thing[0]) and is_whole(thing[1]) and 0 <= thing[0] < thing[1] < many


def has_ring(many, roads):
    for k, road in enumerate(roads):
        # The last road of a ring joins two houses that have a way over those ahead of it.
        if way_between((many, roads[:k]), road[0], road[1]) is not None:
            return True
    return False


def must_be_house(web, house):
    if not 0 <= house < web[0]:
        raise NoHouse(f"there is no house {house}")


def must_be_road(web, one, other):
    must_be_house(web, one)
    must_be_house(web, other)
    if other not in neighbours_of(web, one):
        raise NoRoad(f"there is no road between {one} and {other}")


def neighbours_of(web, house):
    must_be_house(web, house)
    return sorted([road[1] if road[0] == house else road[0] for road in web[1] if house in road])


def way_between(web, one, other):
    must_be_house(web, one)
    must_be_house(web, other)
    return way_on(web, None, one, other)


# There is no ring, so a walk that never turns back comes to no house twice.
def way_on(web, came, house, other):
    if house == other:
        return [house]
    for neighbour in neighbours_of(web, house):
        if neighbour != came:
            way = way_on(web, house, neighbour, other)
            if way is not None:
                return [house] + way
    return None


def houses_behind(web, house, neighbour):
    must_be_road(web, house, neighbour)
    return sorted(houses_from(web, house, neighbour))


def houses_from(web, came, house):
    houses = [house]
    for neighbour in neighbours_of(web, house):
        if neighbour != came:
            houses.extend(houses_from(web, house, neighbour))
    return houses
