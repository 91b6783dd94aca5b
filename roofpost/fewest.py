"""As few wishes as can be that cover a list, and the trees of letters that show that fewer don't."""

from roofpost.together import covered
from roofpost.wishes import has_letter, must_be_kin, roof_of


def fewest_of(wishes):
    roof = roof_of(wishes)
    number = 0
    tree = None
    told = looked_for(roof, [], number)
    while told[0] != "all":
        tree = told
        number = number + 1
        told = looked_for(roof, [], number)
    return (number, told[1], tree)


# A letter that is left must be had by one that is still to be chosen, so to try those that have it is to
# try all: where none of them comes to an end, what was tried is the tree that shows it.
def looked_for(roof, chosen, more):
    letter = letter_left(roof, chosen)
    if letter is None:
        return ("all", sorted(chosen))
    if more == 0:
        return ("left", letter)
    trees = []
    for wish in having(roof, letter):
        told = looked_for(roof, chosen + [wish], more - 1)
        if told[0] == "all":
            return told
        trees.append(told)
    return ("meet", letter, trees)


def letter_left(roof, chosen):
    told = [covered(chosen, wish) for wish in roof]
    letters = [one[1] for one in told if one[0] == "out"]
    # The fewer wishes have the letter, the fewer twigs the tree has.
    return min(letters, key=lambda letter: len(having(roof, letter)), default=None)


def having(wishes, letter):
    return [wish for wish in wishes if has_letter(wish, letter)]


def is_fewest(wishes, thing):
    number = thing[0]
    some = thing[1]
    must_be_kin(wishes + some + letters_in(thing[2]))
    roof = roof_of(wishes)
    if len(some) != number or some != [wish for wish in roof if wish in some]:
        return False
    return letter_left(roof, some) is None and is_right_tree(roof, [], number - 1, thing[2])


def letters_in(tree):
    letters = [tree[1]]
    if tree[0] == "meet":
        for twig in tree[2]:
            letters.extend(letters_in(twig))
    return letters


def is_right_tree(roof, chosen, more, tree):
    letter = tree[1]
    choices = having(roof, letter)
    # What a wish of the list has is had by one of its roof, too.
    if len(choices) == 0 or len(having(chosen, letter)) > 0:
        return False
    if tree[0] == "left":
        return more == 0
    if more == 0 or len(tree[2]) != len(choices):
        return False
    return all([is_right_tree(roof, chosen + [wish], more - 1, twig) for wish, twig in zip(choices, tree[2])])
