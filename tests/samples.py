"""Rows and words for the tests, the same ones in each run."""

import itertools
import random

PLACES = {
    "none": 0, "one": 0, "all": 0, "not": 1, "neg": 1, "twice": 1,
    "and": 2, "or": 2, "xor": 2, "add": 2, "sub": 2,
}

WIDTHS = (1, 2, 3, 5, 8, 13, 31, 32, 33, 59, 60, 61, 64, 100, 300)


def chance(seed):
    return random.Random(seed)


def some_deed(rand, ahead, word=None):
    word = word or rand.choice(sorted(PLACES))
    return (word,) + tuple(rand.randrange(ahead) for _ in range(PLACES[word]))


def some_row(rand, many=None, length=None):
    many = rand.randint(1, 3) if many is None else many
    length = rand.randint(0, 8) if length is None else length
    deeds = tuple(some_deed(rand, many + at) for at in range(length))
    return (many, deeds, rand.randrange(many + length))


def some_rows(seed, count):
    """Rows of each number of inputs and of deeds in turn."""
    rand = chance(seed)
    return [some_row(rand, 1 + at % 3, at // 3 % 9) for at in range(count)]


def lively_row(rand, many, length):
    """A row whose deeds mostly have to do with one another and its out with all of them."""
    deeds = []
    for at in range(length):
        word = rand.choice("not neg twice twice and or xor xor add add add sub sub one".split())
        numbers = [max(rand.randrange(many + at) for _ in range(rand.randint(1, 3))) for _ in range(PLACES[word])]
        deeds.append((word, *numbers))
    return (many, tuple(deeds), many + length - 1)


def lively_rows(seed, count):
    """Such rows of each number of inputs and of deeds in turn."""
    rand = chance(seed)
    return [lively_row(rand, 1 + at % 3, at // 3 % 9) for at in range(count)]


def words_to_try(width, seed=1):
    """Nought, one, the greatest, half of all, and others, each once."""
    top = 2 ** width - 1
    rand = chance(seed)
    others = [rand.randint(0, top) for _ in range(4)]
    return sorted({0, 1, top, 2 ** (width - 1), top // 3, top // 2, max(top - 1, 0), *others})


def bits_from_below(word, width):
    return [int(sign) for sign in reversed(format(word, "b").zfill(width))]


def all_words(many, width):
    """All choices of words of the width, one for each input, each a list."""
    return [list(words) for words in itertools.product(range(2 ** width), repeat=many)]


def with_a_further_deed(rand, row):
    """The same row with a deed somewhere whose value nothing has."""
    many, deeds, out = row
    at = rand.randint(0, len(deeds))

    def moved(number):
        return number + (number >= many + at)

    further = some_deed(rand, many + at)
    behind = tuple((word, *map(moved, numbers)) for word, *numbers in deeds[at:])
    return (many, deeds[:at] + (further,) + behind, moved(out))


# For deeds others of one value, told alike by hand.
OTHERWISE = {
    "twice": lambda i: ("add", i, i),
    "and": lambda i, j: ("and", j, i),
    "or": lambda i, j: ("or", j, i),
    "xor": lambda i, j: ("xor", j, i),
    "add": lambda i, j: ("add", j, i),
}


def put_alike(rand, row):
    """A row that is alike: some deeds put otherwise, others added that nothing has the value of."""
    many, deeds, out = row
    deeds = tuple(
        OTHERWISE[deed[0]](*deed[1:]) if deed[0] in OTHERWISE and rand.random() < 0.7 else deed for deed in deeds
    )
    row = (many, deeds, out)
    while len(row[1]) < 8 and rand.random() < 0.6:
        row = with_a_further_deed(rand, row)
    return row


def changed_deed(rand, row):
    """A row with one deed put in another one's place."""
    many, deeds, out = row
    if not deeds:
        return (many, deeds, rand.randrange(many))
    at = rand.randrange(len(deeds))
    return (many, deeds[:at] + (some_deed(rand, many + at),) + deeds[at + 1:], out)


def some_pairs(seed, count, longest=8):
    """Pairs of rows of as many inputs: alike ones, ones that nearly are, any ones, in turn."""
    rand = chance(seed)
    pairs = []
    for at in range(count):
        draw = some_row if rand.random() < 0.3 else lively_row
        row = draw(rand, 1 + at % 3, rand.randint(0, longest))
        if at % 4 == 0:
            other = put_alike(rand, row)
        elif at % 4 == 3:
            other = draw(rand, row[0], rand.randint(0, longest))
        else:
            other = changed_deed(rand, put_alike(rand, row))
        pairs.append((row, other) if rand.random() < 0.5 else (other, row))
    return pairs


def doubled(many, times, word="twice"):
    """The last input doubled so many times."""
    numbers = [many - 1] + list(range(many, many + times))
    places = 1 if word == "twice" else 2
    return (many, tuple((word,) + (numbers[at],) * places for at in range(times)), numbers[times])


def spelled(many, *deeds):
    """The row of these deeds, written as texts, whose worth is the last value."""
    split = [deed.split() for deed in deeds]
    made = tuple((word, *map(int, numbers)) for word, *numbers in split)
    return (many, made, many + len(made) - 1)


# Rows in groups of alike ones, each of other deeds; those of unlike groups are not alike.
GROUPS = {
    "the first": [(2, (), 0), spelled(2, "not 0", "not 2"), spelled(2, "neg 0", "neg 2"), spelled(2, "and 0 0"),
                  spelled(2, "or 0 0"), spelled(2, "none", "add 2 0"), spelled(2, "add 0 1", "sub 2 1"),
                  spelled(2, "xor 0 1", "xor 2 1"), spelled(2, "and 0 1", "or 2 0")],
    "the second": [(2, (), 1), spelled(2, "sub 0 1", "sub 0 2"), spelled(2, "all", "and 1 2")],
    "none": [spelled(2, "none"), spelled(2, "xor 0 0"), spelled(2, "sub 1 1"), spelled(2, "all", "not 2"),
             spelled(2, "one", "all", "add 2 3"), spelled(2, "not 0", "and 0 2"),
             spelled(2, "add 0 1", "and 0 1", "or 0 1", "add 3 4", "sub 2 5")],
    "one": [spelled(2, "one"), spelled(2, "all", "neg 2"), spelled(2, "not 0", "add 0 2", "neg 3")],
    "all": [spelled(2, "all"), spelled(2, "none", "not 2"), spelled(2, "one", "neg 2"), spelled(2, "not 0", "or 2 0"),
            spelled(2, "not 1", "add 2 1"), spelled(2, "not 1", "xor 2 1")],
    "not": [spelled(2, "not 0"), spelled(2, "all", "sub 2 0"), spelled(2, "all", "xor 2 0"),
            spelled(2, "one", "neg 0", "sub 3 2")],
    "neg": [spelled(2, "neg 0"), spelled(2, "none", "sub 2 0"), spelled(2, "not 0", "one", "add 2 3"),
            spelled(2, "one", "sub 0 2", "not 3")],
    "twice": [spelled(2, "twice 0"), spelled(2, "add 0 0"), spelled(2, "neg 0", "sub 0 2")],
    "four times": [spelled(2, "twice 0", "twice 2"), spelled(2, "add 0 0", "add 2 2"),
                   spelled(2, "add 0 0", "add 0 2", "add 3 0")],
    "and": [spelled(2, "and 0 1"), spelled(2, "and 1 0"), spelled(2, "not 0", "not 1", "or 2 3", "not 4"),
            spelled(2, "add 0 1", "or 0 1", "sub 2 3")],
    "or": [spelled(2, "or 0 1"), spelled(2, "not 1", "and 0 2", "add 3 1"), spelled(2, "xor 0 1", "and 0 1", "add 2 3")],
    "xor": [spelled(2, "xor 0 1"), spelled(2, "or 0 1", "and 0 1", "sub 2 3"),
            spelled(2, "add 0 1", "and 0 1", "twice 3", "sub 2 4")],
    "add": [spelled(2, "add 0 1"), spelled(2, "add 1 0"), spelled(2, "xor 0 1", "and 0 1", "twice 3", "add 2 4"),
            spelled(2, "or 0 1", "and 0 1", "add 2 3"), spelled(2, "neg 1", "sub 0 2"),
            spelled(2, "not 0", "sub 2 1", "not 3")],
    "sub": [spelled(2, "sub 0 1"), spelled(2, "not 0", "add 2 1", "not 3"), spelled(2, "neg 1", "add 0 2"),
            spelled(2, "sub 1 0", "neg 2")],
    "the lowest bit that is 1": [spelled(2, "neg 0", "and 0 2"), spelled(2, "one", "sub 0 2", "not 3", "and 4 0")],
}
