"""Wishes that cover another together, the trees of cuts that show it, and the spare list."""

from roofpost.wishes import covers, in_common, must_be_kin, roof_of


def covered(wishes, wish):
    must_be_kin([wish] + wishes)
    return looked_through(wishes, list(range(len(wishes))), wish)


def looked_through(wishes, numbers, part):
    near = [k for k in numbers if in_common(wishes[k], part) is not None]
    if len(near) == 0:
        return ("out", tuple([pair[0] for pair in part]))
    for k in near:
        if covers(wishes[k], part):
            return ("in", ("by", k))
    place = first_border([wishes[k] for k in near], part)
    halves = halves_of(part, place[0], place[1])
    # In the fields ahead of the cut the near wishes tell no letters apart,
    # so the first letter that is left lies in the one half, if any does there.
    one = looked_through(wishes, near, halves[0])
    if one[0] == "out":
        return one
    other = looked_through(wishes, near, halves[1])
    if other[0] == "out":
        return other
    return ("in", ("cut", place[0], place[1], one[1], other[1]))


def first_border(wishes, part):
    places = []
    for field, pair in enumerate(part):
        for wish in wishes:
            if pair[0] < wish[field][0]:
                places.append((field, wish[field][0] - 1))
            if wish[field][1] < pair[1]:
                places.append((field, wish[field][1]))
    return min(places)


def halves_of(part, field, at):
    ahead = part[:field]
    behind = part[field + 1:]
    low = part[field][0]
    high = part[field][1]
    return (ahead + ((low, at),) + behind, ahead + ((at + 1, high),) + behind)


def is_cuts(wishes, wish, tree):
    must_be_kin([wish] + wishes)
    return is_right_for(wishes, wish, tree)


def is_right_for(wishes, part, tree):
    if tree[0] == "by":
        return 0 <= tree[1] < len(wishes) and covers(wishes[tree[1]], part)
    field = tree[1]
    at = tree[2]
    # A wrong cut ends the walk at once: each one that is followed makes the part less,
    # so the walk is short however deep the tree is.
    if not 0 <= field < len(part) or not part[field][0] <= at < part[field][1]:
        return False
    halves = halves_of(part, field, at)
    return is_right_for(wishes, halves[0], tree[3]) and is_right_for(wishes, halves[1], tree[4])


def spare_of(wishes):
    roof = roof_of(wishes)
    stay = roof
    for wish in roof:
        others = [one for one in stay if one != wish]
        if covered(others, wish)[0] == "in":
            stay = others
    return stay
