"""The least machine of a row, what a machine tells, and how its states are parted."""

from anywide.carries import all_bits, first_carry, steps
from anywide.walks import Walk, both_steps


def whole_machine(row):
    """A row's machine that has a state for each of its carries, numbered as they are first met."""
    choices = all_bits(row[0])
    walk = Walk(first_carry(row))
    machine = []
    while len(machine) < len(walk.met):
        at = len(machine)
        carry = walk.met[at]
        state = []
        for bits, (bit, after) in zip(choices, steps(row, carry)):
            state.append((bit, walk.meet(after, at, bits)))
        machine.append(state)
    return machine


def numbered(looks):
    """For each look its number, from 0 on as they first come, one number for equal looks."""
    numbers = {}
    for look in looks:
        numbers.setdefault(look, len(numbers))
    return [numbers[look] for look in looks]


def kinds_of_states(machine):
    """For each state the number of its kind: one kind are those that tell alike for ever."""
    kinds = numbered([tuple([bit for bit, after in state]) for state in machine])
    many = 0
    # Kinds are only ever parted: where no more of them come, none will.
    while many < max(kinds) + 1:
        many = max(kinds) + 1
        behind = [tuple([kinds[after] for bit, after in state]) for state in machine]
        kinds = numbered(list(zip(kinds, behind)))
    return kinds


def least_machine(row):
    """The row's machine of fewest states, numbered as they are first met: a new list of new lists."""
    whole = whole_machine(row)
    kinds = kinds_of_states(whole)
    least = []
    # A kind has the number of its first state among the kinds, and the states are numbered as they are
    # first met: so the kinds are numbered as they are first met, too.
    for kind, state in zip(kinds, whole):
        if kind == len(least):
            least.append([(bit, kinds[after]) for bit, after in state])
    return least


def told_by(machine, width, words):
    """What a machine tells for words of that width: a number."""
    told = 0
    number = 0
    for place in range(width):
        at = 0
        for word in words:
            at = 2 * at + (word >> place & 1)
        bit, number = machine[number][at]
        told += bit << place
    return told


def leader_of(leaders, state):
    """The state that stands for all that are joined with this one."""
    while leaders[state] != state:
        # What was found is written down, so that the next way is shorter.
        leaders[state] = leaders[leaders[state]]
        state = leaders[state]
    return state


def join_states(leaders, one, other):
    """Joins two states; tells whether they were not joined before."""
    one = leader_of(leaders, one)
    other = leader_of(leaders, other)
    leaders[other] = one
    return one != other


def parting(machine, one, other):
    """The fewest bits, the first ones as sorted, by which two states tell unlike bits at last, or None."""
    choices = all_bits(len(machine[one]).bit_length() - 1)
    leaders = list(range(len(machine)))
    join_states(leaders, one, other)
    walk = Walk((one, other))
    at = 0
    while at < len(walk.met):
        first, second = walk.met[at]
        for bits, (bit, others_bit, after) in zip(choices, both_steps(machine[first], machine[second])):
            if bit != others_bit:
                return walk.bits_to(at) + [bits]
            # What parts two states that are joined by others' pairs parts one of those pairs, and they were
            # met earlier: so this pair is not needed, and as few pairs are met as there are states.
            if join_states(leaders, after[0], after[1]):
                walk.meet(after, at, bits)
        at += 1
    return None
