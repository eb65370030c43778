"""Whether two rows are alike at every width, or where they part."""

from anywide.carries import all_bits, first_carry, kept_steps
from anywide.errors import NoPair
from anywide.walks import Walk, both_steps, words_of


def check_pair(row, other):
    """Refuses rows of unlike numbers of inputs."""
    if row[0] != other[0]:
        raise NoPair(f"rows of {row[0]} and of {other[0]} inputs")


def alike(row, other):
    """("alike", a closed list of pairs of carries), or ("apart", the least width, words at which they part)."""
    check_pair(row, other)
    choices = all_bits(row[0])
    ones, others = {}, {}
    walk = Walk((first_carry(row), first_carry(other)))
    at = 0
    while at < len(walk.met):
        carry, others_carry = walk.met[at]
        both = both_steps(kept_steps(ones, row, carry), kept_steps(others, other, others_carry))
        for bits, (bit, others_bit, after) in zip(choices, both):
            if bit != others_bit:
                columns = walk.bits_to(at) + [bits]
                return ("apart", len(columns), words_of(row[0], columns))
            walk.meet(after, at, bits)
        at += 1
    return ("alike", walk.met)


def is_closed(row, other, pairs):
    """Whether a list of pairs of carries is closed, and so shows the rows alike."""
    check_pair(row, other)
    listed = set(pairs)
    if (first_carry(row), first_carry(other)) not in listed:
        return False
    ones, others = {}, {}
    for carry, others_carry in pairs:
        both = both_steps(kept_steps(ones, row, carry), kept_steps(others, other, others_carry))
        for bit, others_bit, after in both:
            if bit != others_bit or after not in listed:
                return False
    return True
