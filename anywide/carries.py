"""The bits of a row's values from the lowest up, by carries."""


def all_bits(many):
    """All bits for so many inputs, in order: 0 ahead of 1, the first input's slowest."""
    choices = [()]
    for place in range(many):
        choices = [bits + (bit,) for bits in choices for bit in (0, 1)]
    return choices


def first_carry(row):
    """The carry with which the lowest bits begin."""
    return tuple([1 if deed[0] in ("neg", "one") else 0 for deed in row[1]])


def deed_bit(deed, held, told):
    """The bit of a deed by its own carry, held; told are the bits of the values ahead of it."""
    word = deed[0]
    if word == "none":
        return 0
    if word == "all":
        return 1
    if word == "one" or word == "twice":
        return held
    first = told[deed[1]]
    if word == "not":
        return 1 - first
    if word == "neg":
        return (1 - first) ^ held
    second = told[deed[2]]
    if word == "and":
        return first & second
    if word == "or":
        return first | second
    if word == "xor":
        return first ^ second
    return first ^ second ^ held


def bits_of(row, carry, bits):
    """The bit of each value, by a carry and the bits of the inputs."""
    told = list(bits)
    for deed, held in zip(row[1], carry):
        told.append(deed_bit(deed, held, told))
    return tuple(told)


def two_or_more(one, other, third):
    """1 where two or more of three bits are 1, else 0."""
    return (one + other + third) // 2


def deed_carry(deed, held, told):
    """The next carry of a deed by its own carry, held; told are the bits of all values."""
    word = deed[0]
    if word == "neg":
        return (1 - told[deed[1]]) & held
    if word == "twice":
        return told[deed[1]]
    if word == "add":
        return two_or_more(told[deed[1]], told[deed[2]], held)
    if word == "sub":
        return two_or_more(1 - told[deed[1]], told[deed[2]], held)
    return 0


def next_carry(row, carry, bits):
    """The carry that comes behind a carry, by the bits of the inputs."""
    told = bits_of(row, carry, bits)
    return tuple([deed_carry(deed, held, told) for deed, held in zip(row[1], carry)])


def carries(row):
    """All carries that come from the first one on, whatever the bits, sorted: a new list."""
    choices = all_bits(row[0])
    first = first_carry(row)
    seen = set()
    seen.add(first)
    waiting = [first]
    while waiting:
        carry = waiting.pop()
        for bits in choices:
            after = next_carry(row, carry, bits)
            if after not in seen:
                seen.add(after)
                waiting.append(after)
    return sorted(seen)
