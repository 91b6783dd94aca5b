"""Letters and wishes: having, covering, what two have in common, and the roof of a list."""

from roofpost.errors import NoKin

LEAST = 0
MOST = 9
MOST_FIELDS = 3


def is_whole(thing):
    # Python counts True and False among its ints, the document doesn't.
    return isinstance(thing, int) and not isinstance(thing, bool)


def is_figure(thing):
    return is_whole(thing) and LEAST <= thing <= MOST


def is_pair(thing):
    if not isinstance(thing, tuple) or len(thing) != 2:
        return False
    return is_figure(thing[0]) and is_figure(thing[1]) and thing[0] <= thing[1]


def has_fields(thing):
    return isinstance(thing, tuple) and 1 <= len(thing) <= MOST_FIELDS


def is_letter(thing):
    return has_fields(thing) and all([is_figure(number) for number in thing])


def is_wish(thing):
    return has_fields(thing) and all([is_pair(pair) for pair in thing])


def must_be_kin(things):
    for thing in things:
        if len(thing) != len(things[0]):
            raise NoKin("letters and wishes of unlike many fields")


def has_letter(wish, letter):
    must_be_kin([wish, letter])
    return all([pair[0] <= number <= pair[1] for pair, number in zip(wish, letter)])


def covers(one, other):
    must_be_kin([one, other])
    # No wish is empty, so to have all its letters is to reach over both ends of each field.
    return all([wide[0] <= pair[0] and pair[1] <= wide[1] for wide, pair in zip(one, other)])


def in_common(one, other):
    must_be_kin([one, other])
    shared = []
    for pair, twin in zip(one, other):
        low = max(pair[0], twin[0])
        high = min(pair[1], twin[1])
        if low > high:
            return None
        shared.append((low, high))
    return tuple(shared)


def letters_of(wish):
    many = 1
    for pair in wish:
        many = many * (pair[1] - pair[0] + 1)
    return many


def roof_of(wishes):
    must_be_kin(wishes)
    unlike = sorted(set(wishes))
    return [wish for wish in unlike if not is_under_another(unlike, wish)]


def is_under_another(wishes, wish):
    return any([one != wish and covers(one, wish) for one in wishes])
