"""Rows mended step by step: each step leaves a row that is alike, and no dearer."""

from anywide.carries import all_bits, bits_of, carries
from anywide.errors import NoRule
from anywide.rows import is_whole, renumbered


def first_alikes(row):
    """For each value the number of the first one that is alike to it as out: its own, or one ahead of it."""
    # Whatever is out, the carries that come are the same ones: values are alike where all of these tell
    # one bit for both of them.
    told = [bits_of(row, carry, bits) for carry in carries(row) for bits in all_bits(row[0])]
    looks = list(zip(*told))
    return [looks.index(look) for look in looks]


def is_had(row, value):
    """Whether a deed or out has the number of a value."""
    return value == row[2] or any([value in deed[1:] for deed in row[1]])


def fitting(row):
    """All rules that fit, each with its value, drop ahead of same, by rising values: a new list."""
    firsts = first_alikes(row)
    drops, sames = [], []
    for value in range(row[0], row[0] + len(row[1])):
        if not is_had(row, value):
            drops.append(("drop", value))
        elif firsts[value] != value:
            sames.append(("same", value))
    return drops + sames


def dropped(row, value):
    """The row without the deed of a value that nothing has."""
    many, deeds, out = row
    at = value - many
    numbers = [number - 1 if number > value else number for number in range(many + len(deeds))]
    left = deeds[:at] + deeds[at + 1:]
    return (many, tuple([renumbered(deed, numbers) for deed in left]), numbers[out])


def brought_back(row, value):
    """The row with the first value that is alike in the place of a value."""
    many, deeds, out = row
    numbers = list(range(many + len(deeds)))
    numbers[value] = first_alikes(row)[value]
    return (many, tuple([renumbered(deed, numbers) for deed in deeds]), numbers[out])


def is_fitting(row, rule, value):
    """Whether a rule, which may be anything, fits at a value, which may be anything."""
    # Python would hold True for the value 1.
    return is_whole(value) and (rule, value) in fitting(row)


def put_by(row, rule, value):
    """What the row becomes by a rule that fits at a value."""
    if rule == "drop":
        return dropped(row, value)
    return brought_back(row, value)


def put_otherwise(row, rule, value):
    """What the row becomes by a rule at a value; a rule that does not fit there is refused."""
    if not is_fitting(row, rule, value):
        raise NoRule("a rule that does not fit at that value")
    return put_by(row, rule, value)


def mended(row):
    """The chain by the first rule that fits, again and again, till none does: a new list."""
    chain = []
    fit = fitting(row)
    while fit:
        rule, value = fit[0]
        row = put_by(row, rule, value)
        chain.append((rule, value, row))
        fit = fitting(row)
    return chain


def is_the_very(thing, wanted):
    """Whether thing, which may be anything, is what is wanted: a tuple, text or whole number, by kind and by worth."""
    if isinstance(wanted, tuple):
        if not isinstance(thing, tuple) or len(thing) != len(wanted):
            return False
        return all([is_the_very(part, wanted_part) for part, wanted_part in zip(thing, wanted)])
    return thing == wanted and (isinstance(wanted, str) or is_whole(thing))


def is_step(row, thing):
    """Whether thing, which may be anything, is a step from a row: one that fits, and the row behind it."""
    if not isinstance(thing, tuple) or len(thing) != 3:
        return False
    rule, value, behind = thing
    return is_fitting(row, rule, value) and is_the_very(behind, put_by(row, rule, value))


def is_chain(row, thing):
    """Whether thing, which may be anything, is a chain from the row: a list of steps, each one that fits."""
    if not isinstance(thing, list):
        return False
    for step in thing:
        if not is_step(row, step):
            return False
        row = step[2]
    return True
