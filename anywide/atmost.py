"""Whether one row is never greater than another one, or where it is, first."""

from anywide.alike import check_pair
from anywide.carries import all_bits, first_carry, kept_steps
from anywide.walks import Walk, both_steps, words_of

# The signs: neither is greater by the bits so far, the other one is, the row is.
EVEN = 0
BELOW = 1
ABOVE = 2


def sign_behind(sign, bit, others_bit):
    """The sign behind a sign, by the bits of both outs."""
    # A higher bit counts for more than all bits below it.
    if bit == others_bit:
        return sign
    return ABOVE if bit == 1 else BELOW


def triples_behind(sign, both):
    """For all bits, in order, the triple that comes; both are the steps of both carries side by side."""
    told = []
    for bit, others_bit, (after, others_after) in both:
        told.append((after, others_after, sign_behind(sign, bit, others_bit)))
    return told


def at_most(row, other):
    """("most", a closed list of triples), or ("greater", the least width, words at which the row is greater)."""
    check_pair(row, other)
    choices = all_bits(row[0])
    ones, others = {}, {}
    walk = Walk((first_carry(row), first_carry(other), EVEN))
    at = 0
    while at < len(walk.met):
        carry, others_carry, sign = walk.met[at]
        both = both_steps(kept_steps(ones, row, carry), kept_steps(others, other, others_carry))
        for bits, after in zip(choices, triples_behind(sign, both)):
            if after[2] == ABOVE:
                columns = walk.bits_to(at) + [bits]
                return ("greater", len(columns), words_of(row[0], columns))
            walk.meet(after, at, bits)
        at += 1
    return ("most", walk.met)


def is_never_greater(row, other, triples):
    """Whether a list of triples is closed, and so shows that the row is never greater."""
    check_pair(row, other)
    listed = set(triples)
    if (first_carry(row), first_carry(other), EVEN) not in listed:
        return False
    ones, others = {}, {}
    for carry, others_carry, sign in triples:
        if sign == ABOVE:
            return False
        both = both_steps(kept_steps(ones, row, carry), kept_steps(others, other, others_carry))
        for after in triples_behind(sign, both):
            if after not in listed:
                return False
    return True
