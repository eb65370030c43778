"""The greatest and the least worth for a width, and how far one row is ahead of another one."""

from anywide.alike import check_pair
from anywide.carries import all_bits
from anywide.machines import least_machine
from anywide.walks import Walk, both_steps


def packed(width, gain, bits):
    """A gain and the bits of the inputs in one number, each bit at the foot of a field of that width."""
    number = gain
    for bit in bits:
        number = (number << width) + bit
    return number


def unpacked(many, width, number):
    """The amount that stands above, and the words in the fields below it: a new list."""
    words = []
    for place in range(many):
        words.append(number & ((1 << width) - 1))
        number >>= width
    return (number, words[::-1])


def best_ways(width, choices, pairs):
    """For each state that comes, the most that a step to it brings: pairs of the state and a packed number."""
    most = {}
    for bits, (gain, after) in zip(choices, pairs):
        more = packed(width, gain, bits)
        most[after] = max(more, most.get(after, more))
    return list(most.items())


def greatest(many, width, gains):
    """The greatest amount that comes in so many steps, and words by which it comes.

    gains has for each state a list of pairs, one for all bits in order: what the amount gains, and the next
    state. A gain counts twice as much at each step further up.
    """
    choices = all_bits(many)
    ways = [best_ways(width, choices, pairs) for pairs in gains]
    # One number for each state: the greatest amount by the bits from here up, and words by which it comes in
    # the fields below. One bit further down both amount and words are doubled and take in what is new.
    best = [0] * len(ways)
    for place in range(width):
        best = [max([2 * best[after] + more for after, more in way]) for way in ways]
    return unpacked(many, width, best[0])


def greatest_worth(row, width):
    """(the greatest worth for words of that width, words at which it is)."""
    return greatest(row[0], width, least_machine(row))


def least_worth(row, width):
    """(the least worth for words of that width, words at which it is)."""
    machine = least_machine(row)
    amount, words = greatest(row[0], width, [[(-bit, after) for bit, after in state] for state in machine])
    return (-amount, words)


def gains_of_both(row, other):
    """For each pair of states of both rows' machines by how much the row gets ahead, and what comes, for all bits."""
    ones, others = least_machine(row), least_machine(other)
    choices = all_bits(row[0])
    walk = Walk((0, 0))
    gains = []
    while len(gains) < len(walk.met):
        at = len(gains)
        state, others_state = walk.met[at]
        pairs = []
        for bits, (bit, others_bit, after) in zip(choices, both_steps(ones[state], others[others_state])):
            pairs.append((bit - others_bit, walk.meet(after, at, bits)))
        gains.append(pairs)
    return gains


def greatest_ahead(row, other, width):
    """(the greatest amount by which the row's worth, less the other's, comes at that width, such words)."""
    check_pair(row, other)
    return greatest(row[0], width, gains_of_both(row, other))
