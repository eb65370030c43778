"""The bits of a row's values from the lowest up, by carries."""


def all_bits(many):
    """All bits for so many inputs, in order: 0 ahead of 1, the first input's slowest."""
    choices = [()]
    for place in range(many):
        choices = [bits + (bit,) for bits in choices for bit in (0, 1)]
    return choices


def first_carry(row):
    """The carry with which the lowest bits begin."""
    return tuple([1 if deed[0] in ("neg", "one") else 0 for deed in row[1]])


def deed_bit(deed, held, told):
    """The bit of a deed by its own carry, held; told are the bits of the values ahead of it."""
    word = deed[0]
    if word == "none":
        return 0
    if word == "all":
        return 1
    if word == "one" or word == "twice":
        return held
    first = told[deed[1]]
    if word == "not":
        return 1 - first
    if word == "neg":
        return (1 - first) ^ held
    second = told[deed[2]]
    if word == "and":
        return first & second
    if word == "or":
        return first | second
    if word == "xor":
        return first ^ second
    return first ^ second ^ held


def bits_of(row, carry, bits):
    """The bit of each value, by a carry and the bits of the inputs."""
    told = list(bits)
    for deed, held in zip(row[1], carry):
        told.append(deed_bit(deed, held, told))
    return tuple(told)


def two_or_more(one, other, third):
    """1 where two or more of three bits are 1, else 0."""
    return (one + other + third) // 2


def deed_carry(deed, held, told):
    """The next carry of a deed by its own carry, held; told are the bits of all values."""
    word = deed[0]
    if word == "neg":
        return (1 - told[deed[1]]) & held
    if word == "twice":
        return told[deed[1]]
    if word == "add":
        return two_or_more(told[deed[1]], told[deed[2]], held)
    if word == "sub":
        return two_or_more(1 - told[deed[1]], told[deed[2]], held)
    return 0


def carry_behind(row, carry, told):
    """The carry that comes behind a carry; told are the bits of all values by it."""
    return tuple([deed_carry(deed, held, told) for deed, held in zip(row[1], carry)])


def next_carry(row, carry, bits):
    """The carry that comes behind a carry, by the bits of the inputs."""
    return carry_behind(row, carry, bits_of(row, carry, bits))


def steps(row, carry):
    """For all bits of the inputs, in order, a pair: the bit of out, and the carry that comes behind."""
    told = []
    for bits in all_bits(row[0]):
        all_told = bits_of(row, carry, bits)
        told.append((all_told[row[2]], carry_behind(row, carry, all_told)))
    return told


def kept_steps(kept, row, carry):
    """The steps of a row's carry, worked out once and then kept in the dict."""
    if carry not in kept:
        kept[carry] = steps(row, carry)
    return kept[carry]


def carries(row):
    """All carries that come from the first one on, whatever the bits, sorted: a new list."""
    first = first_carry(row)
    seen = set()
    seen.add(first)
    waiting = [first]
    while waiting:
        for bit, after in steps(row, waiting.pop()):
            if after not in seen:
                seen.add(after)
                waiting.append(after)
    return sorted(seen)
