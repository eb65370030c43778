"""Whether a row of one input is one to one at every width, and the way back."""

from anywide.carries import first_carry, kept_steps, steps
from anywide.errors import NoRow
from anywide.walks import Walk, words_of


def check_single(row):
    """Refuses a row of more than one input."""
    if row[0] != 1:
        raise NoRow(f"a row of {row[0]} inputs, where one of a single input is asked for")


def turned(row):
    """("turned", a closed list of carries), or ("meet", the least width, one, other): words of one worth."""
    check_single(row)
    walk = Walk(first_carry(row))
    at = 0
    while at < len(walk.met):
        (bit, after), (others_bit, others_after) = steps(row, walk.met[at])
        if bit == others_bit:
            # Words that differ in their highest bit only: what is below it is told alike.
            below = walk.bits_to(at)
            one = words_of(1, below)[0]
            return ("meet", len(below) + 1, one, one + (1 << len(below)))
        walk.meet(after, at, (0,))
        walk.meet(others_after, at, (1,))
        at += 1
    return ("turned", walk.met)


def is_turning(row, carries):
    """Whether a list of carries is closed, and so shows the row one to one."""
    check_single(row)
    listed = set(carries)
    if first_carry(row) not in listed:
        return False
    for carry in carries:
        (bit, after), (others_bit, others_after) = steps(row, carry)
        if bit == others_bit or after not in listed or others_after not in listed:
            return False
    return True


def gone_up(row, kept, least, place, wanted):
    """For each carry the least word that leads to it, one bit further up, where out has the wanted bit."""
    told = {}
    for carry, low in least.items():
        for top, (bit, after) in enumerate(kept_steps(kept, row, carry)):
            if bit == wanted:
                word = low + (top << place)
                told[after] = min(word, told.get(after, word))
    return told


def gone_back(row, width, word):
    """The least word of that width whose worth is the word, or None."""
    check_single(row)
    # No worth of the width is a number that is no word of it.
    if word >> width != 0:
        return None
    kept = {}
    least = {first_carry(row): 0}
    for place in range(width):
        least = gone_up(row, kept, least, place, word >> place & 1)
    if not least:
        return None
    return min(least.values())
