"""The words of the document, gone through letter by letter, to hold the program against.

Nothing here is taken from the program, so that a fault in it can't hide itself.
"""

import itertools
import random


def letters(wish):
    return sorted(itertools.product(*[range(low, high + 1) for low, high in wish]))


def has(wish, letter):
    return all(number in range(low, high + 1) for (low, high), number in zip(wish, letter))


def covers(one, other):
    return all(has(one, letter) for letter in letters(other))


def left(wishes, wish):
    """The letters of the wish that none of the wishes has, rising."""
    return [letter for letter in letters(wish) if not any(has(one, letter) for one in wishes)]


def roof(wishes):
    return [wish for wish in sorted(set(wishes))
            if not any(one != wish and covers(one, wish) for one in wishes)]


def spare(wishes):
    out = []
    whole = roof(wishes)
    for wish in whole:
        rest = [one for one in whole if one not in out and one != wish]
        if left(rest, wish) == []:
            out.append(wish)
    return [wish for wish in whole if wish not in out]


def is_whole(thing):
    return type(thing) is int


def is_right_tree(wishes, part, tree):
    """Point 7, its form too: a told tree has to be made of tuples, texts and whole numbers."""
    if type(tree) is not tuple or type(tree[0]) is not str:
        return False
    if tree[0] == "by":
        return (len(tree) == 2 and is_whole(tree[1]) and tree[1] in range(len(wishes))
                and covers(wishes[tree[1]], part))
    if tree[0] != "cut" or len(tree) != 5 or not is_whole(tree[1]) or not is_whole(tree[2]):
        return False
    field, at = tree[1], tree[2]
    if field not in range(len(part)):
        return False
    low, high = part[field]
    if at < low or at >= high:
        return False
    one, other = list(part), list(part)
    one[field] = (low, at)
    other[field] = (at + 1, high)
    return (is_right_tree(wishes, tuple(one), tree[3])
            and is_right_tree(wishes, tuple(other), tree[4]))


def dice(seed):
    """A source of inputs that is the same at each run."""
    return random.Random(seed)


def any_wish(rng, fields, least=0, most=9):
    return tuple(tuple(sorted((rng.randint(least, most), rng.randint(least, most))))
                 for field in range(fields))


def any_wishes(rng, fields, many, least=0, most=9):
    return [any_wish(rng, fields, least, most) for k in range(many)]


def parts_of(rng, wish, times):
    """Wishes that together have just the letters of the wish: it is cut again and again."""
    parts = [wish]
    for time in range(times):
        part = parts.pop(rng.randrange(len(parts)))
        wide = [field for field, (low, high) in enumerate(part) if low < high]
        if not wide:
            parts.append(part)
            continue
        field = rng.choice(wide)
        low, high = part[field]
        at = rng.randint(low, high - 1)
        parts.append(part[:field] + ((low, at),) + part[field + 1:])
        parts.append(part[:field] + ((at + 1, high),) + part[field + 1:])
    rng.shuffle(parts)
    return parts
