"""For how many choices of words rows agree, or a row's worth is a word."""

from anywide.alike import check_pair
from anywide.carries import all_bits, first_carry, kept_steps
from anywide.machines import least_machine
from anywide.walks import Walk, both_steps


def agreeing(row, other):
    """For each pair of states that comes while both rows' machines tell one bit, the numbers of those behind it.

    A number stands there as often as there are bits that lead to it.
    """
    # Least machines have far fewer pairs of states than the rows have pairs of carries.
    ones, others = least_machine(row), least_machine(other)
    choices = all_bits(row[0])
    walk = Walk((0, 0))
    behind = []
    while len(behind) < len(walk.met):
        at = len(behind)
        state, others_state = walk.met[at]
        numbers = []
        for bits, (bit, others_bit, after) in zip(choices, both_steps(ones[state], others[others_state])):
            if bit == others_bit:
                numbers.append(walk.meet(after, at, bits))
        behind.append(numbers)
    return behind


def how_often(row, other, width):
    """For how many choices of words of that width, one for each input, both rows have one worth."""
    check_pair(row, other)
    behind = agreeing(row, other)
    # For each pair of states: by how many choices of so many bits more both go on telling one bit.
    counts = [1] * len(behind)
    for place in range(width):
        counts = [sum([counts[number] for number in numbers]) for numbers in behind]
    return counts[0]


def counted_on(row, kept, counts, wanted):
    """For each carry by how many choices it comes, one bit further up, where out has the wanted bit."""
    told = {}
    for carry, many in counts.items():
        for bit, after in kept_steps(kept, row, carry):
            if bit == wanted:
                told[after] = told.get(after, 0) + many
    return told


def how_many(row, width, word):
    """For how many choices of words of that width, one for each input, the row's worth is that word."""
    # No worth of the width is a number that is no word of it.
    if word >> width != 0:
        return 0
    kept = {}
    counts = {first_carry(row): 1}
    for place in range(width):
        counts = counted_on(row, kept, counts, word >> place & 1)
    return sum(counts.values())
