"""Rows of deeds: what they are, what they are worth, what they cost."""

MOST_INPUTS = 3
MOST_DEEDS = 8

# How many numbers of values stand behind the first word of a deed.
PLACES = {
    "none": 0, "one": 0, "all": 0,
    "not": 1, "neg": 1, "twice": 1,
    "and": 2, "or": 2, "xor": 2, "add": 2, "sub": 2,
}


def is_whole(thing):
    """Whether thing is a whole number."""
    # Python counts True and False among the integers; the document does not.
    return isinstance(thing, int) and not isinstance(thing, bool)


def is_number_below(thing, many):
    """Whether thing is the number of one of so many values."""
    return is_whole(thing) and 0 <= thing < many


def is_deed(thing, ahead):
    """Whether thing is a deed that has so many values ahead of its own."""
    if not isinstance(thing, tuple) or len(thing) == 0:
        return False
    word = thing[0]
    # Only a text may be looked up: a list or a dict cannot be a key.
    if not isinstance(word, str) or word not in PLACES:
        return False
    numbers = thing[1:]
    return len(numbers) == PLACES[word] and all([is_number_below(number, ahead) for number in numbers])


def are_deeds(thing, many):
    """Whether thing is the deeds of a row of so many inputs."""
    if not isinstance(thing, tuple) or len(thing) > MOST_DEEDS:
        return False
    return all([is_deed(deed, many + at) for at, deed in enumerate(thing)])


def is_row(thing):
    """Whether thing, which may be anything, is a row."""
    if not isinstance(thing, tuple) or len(thing) != 3:
        return False
    many, deeds, out = thing
    if not is_whole(many) or not 1 <= many <= MOST_INPUTS:
        return False
    return are_deeds(deeds, many) and is_number_below(out, many + len(deeds))


def renumbered(deed, numbers):
    """The deed with other numbers of values: for each of its own the one that numbers has at that place."""
    return (deed[0],) + tuple([numbers[number] for number in deed[1:]])


def deed_value(deed, told, size):
    """The value of a deed, not yet brought below size; told are the values ahead of it."""
    word = deed[0]
    if word == "none":
        return 0
    if word == "one":
        return 1
    if word == "all":
        return size - 1
    first = told[deed[1]]
    if word == "not":
        return size - 1 - first
    if word == "neg":
        return -first
    if word == "twice":
        return first + first
    second = told[deed[2]]
    if word == "and":
        return first & second
    if word == "or":
        return first | second
    if word == "xor":
        return first ^ second
    if word == "add":
        return first + second
    return first - second


def values(row, width, words):
    """The values of a row for words of that width: a new list."""
    size = 1 << width
    told = list(words)
    for deed in row[1]:
        told.append(deed_value(deed, told, size) % size)
    return told


def worth(row, width, words):
    """The value of a row's out for words of that width."""
    return values(row, width, words)[row[2]]


def cost(row, costs):
    """The sum of what a row's deeds cost."""
    return sum([costs[deed[0]] for deed in row[1]])
