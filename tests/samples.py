"""Rows and words for the tests, the same ones in each run."""

import random

PLACES = {
    "none": 0, "one": 0, "all": 0, "not": 1, "neg": 1, "twice": 1,
    "and": 2, "or": 2, "xor": 2, "add": 2, "sub": 2,
}

WIDTHS = (1, 2, 3, 5, 8, 13, 31, 32, 33, 59, 60, 61, 64, 100, 300)


def chance(seed):
    return random.Random(seed)


def some_deed(rand, ahead, word=None):
    word = word or rand.choice(sorted(PLACES))
    return (word,) + tuple(rand.randrange(ahead) for _ in range(PLACES[word]))


def some_row(rand, many=None, length=None):
    many = rand.randint(1, 3) if many is None else many
    length = rand.randint(0, 8) if length is None else length
    deeds = tuple(some_deed(rand, many + at) for at in range(length))
    return (many, deeds, rand.randrange(many + length))


def some_rows(seed, count):
    """Rows of each number of inputs and of deeds in turn."""
    rand = chance(seed)
    return [some_row(rand, 1 + at % 3, at // 3 % 9) for at in range(count)]


def words_to_try(width, seed=1):
    """Nought, one, the greatest, half of all, and others, each once."""
    top = 2 ** width - 1
    rand = chance(seed)
    others = [rand.randint(0, top) for _ in range(4)]
    return sorted({0, 1, top, 2 ** (width - 1), top // 3, top // 2, max(top - 1, 0), *others})


def bits_from_below(word, width):
    return [int(sign) for sign in reversed(format(word, "b").zfill(width))]
