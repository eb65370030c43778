"""Point 6 once more, by tables: what the tests hold the program's carries against."""

import itertools

# For deeds of no value, by the carry 0 and 1: (bit, next carry).
OF_NONE = {"none": ((0, 0), (0, 0)), "one": ((0, 0), (1, 0)), "all": ((1, 0), (1, 0))}
# For deeds of one value, by a and the carry, 00, 01, 10, 11.
OF_ONE = {
    "not": ((1, 0), (1, 0), (0, 0), (0, 0)),
    "neg": ((1, 0), (0, 1), (0, 0), (1, 0)),
    "twice": ((0, 0), (1, 0), (0, 1), (1, 1)),
}
# For deeds of two values, by a, b and the carry, 000, 001, 010, .., 111.
OF_TWO = {
    "and": ((0, 0), (0, 0), (0, 0), (0, 0), (0, 0), (0, 0), (1, 0), (1, 0)),
    "or": ((0, 0), (0, 0), (1, 0), (1, 0), (1, 0), (1, 0), (1, 0), (1, 0)),
    "xor": ((0, 0), (0, 0), (1, 0), (1, 0), (1, 0), (1, 0), (0, 0), (0, 0)),
    "add": ((0, 0), (1, 0), (1, 0), (0, 1), (1, 0), (0, 1), (0, 1), (1, 1)),
    "sub": ((0, 0), (1, 1), (1, 1), (0, 1), (1, 0), (0, 0), (0, 0), (1, 1)),
}
TABLE = {**OF_NONE, **OF_ONE, **OF_TWO}


def all_tuples(length):
    return list(itertools.product((0, 1), repeat=length))


def by_the_table(row, carry, bits):
    """The bits of all values and the next carry, by the tables above."""
    told, after = list(bits), []
    for (word, *numbers), held in zip(row[1], carry):
        place = 0
        for bit in [told[number] for number in numbers] + [held]:
            place = 2 * place + bit
        told.append(TABLE[word][place][0])
        after.append(TABLE[word][place][1])
    return tuple(told), tuple(after)


def start_by_the_table(row):
    return tuple(int(word in ("neg", "one")) for word, *numbers in row[1])


def carries_by_the_table(row):
    known, before = {start_by_the_table(row)}, set()
    while known != before:
        before = set(known)
        known |= {by_the_table(row, carry, bits)[1] for carry in before for bits in all_tuples(row[0])}
    return sorted(known)
