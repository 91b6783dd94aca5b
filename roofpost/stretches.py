"""Few stretches that have all numbers of many, and the mark that shows that no others have fewer needless ones."""


def few_of(stretches, many, counts):
    numbers = numbers_of(stretches)
    gaps = sorted(gaps_of(numbers), key=lambda gap: weight_of(gap, counts), reverse=True)
    out = sorted(gaps[:many - 1])
    weights = [weight_of(gap, counts) for gap in gaps[many - 1:]]
    lows = numbers[:1] + [gap[1] + 1 for gap in out]
    highs = [gap[0] - 1 for gap in out] + numbers[-1:]
    # No gap that is left out weighs less than the mark, and none that stays in weighs more.
    return (sum(weights), list(zip(lows, highs)), max(weights, default=0))


def numbers_of(stretches):
    numbers = []
    for stretch in stretches:
        numbers.extend(list(range(stretch[0], stretch[1] + 1)))
    return sorted(set(numbers))


def gaps_of(numbers):
    return [(one + 1, other - 1) for one, other in zip(numbers, numbers[1:]) if one + 1 < other]


def weight_of(gap, counts):
    return sum(counts[gap[0]:gap[1] + 1])


def is_few(stretches, many, counts, thing):
    some = thing[1]
    # The bounds come first, so that no stretch is walked that is longer than the counts.
    if len(some) > many or not is_row(some, len(counts)):
        return False
    asked = numbers_of(stretches)
    had = numbers_of(some)
    if any([number not in had for number in asked]):
        return False
    needless = sum([counts[number] for number in had if number not in asked])
    return thing[0] == needless and is_mark(gaps_of(asked), many, counts, needless, thing[2])


def is_row(some, bound):
    ahead = -1
    for stretch in some:
        if not ahead < stretch[0] <= stretch[1] < bound:
            return False
        ahead = stretch[1]
    return True


def is_mark(gaps, many, counts, needless, mark):
    lesser = [min(weight_of(gap, counts), mark) for gap in gaps]
    return mark >= 0 and needless == sum(lesser) - (many - 1) * mark
