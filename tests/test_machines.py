"""Least machines, what machines tell, and the bits that part their states: point 10."""

import itertools
import unittest

from anywide.alike import alike
from anywide.machines import least_machine, parting, told_by
from anywide.rows import worth
from refusals import Asked
from samples import GROUPS, all_words, chance, doubled, lively_rows, some_pairs, some_rows, spelled, words_to_try
from tables import all_tuples, by_the_table, carries_by_the_table


def inputs_of(machine):
    return {2: 1, 4: 2, 8: 3}[len(machine[0])]


def fewest(machine):
    """For each two states that can be parted, by how few tuples of bits they can."""
    few = {}
    pairs = list(itertools.product(range(len(machine)), repeat=2))
    length = 0
    grows = True
    while grows:
        grows = False
        length += 1
        for pair in pairs:
            if pair in few:
                continue
            for (bit, after), (others_bit, others_after) in zip(machine[pair[0]], machine[pair[1]]):
                if bit != others_bit or few.get((after, others_after), length) < length:
                    few[pair] = length
                    grows = True
                    break
    return few


def first_of_the_fewest(machine, one, other, few):
    """The bits that parting must tell, by always taking the first ones that lead nearer."""
    if (one, other) not in few:
        return None
    told = []
    while True:
        left = few[one, other]
        for bits, (bit, after), (others_bit, others_after) in zip(
            all_tuples(inputs_of(machine)), machine[one], machine[other]
        ):
            if left == 1 and bit != others_bit:
                return told + [bits]
            if left > 1 and few.get((after, others_after)) == left - 1:
                told.append(bits)
                one, other = after, others_after
                break


def carry_machine(row):
    """A machine of the row with a state for each carry, the first carry's ahead."""
    carries = carries_by_the_table(row)
    first = tuple(int(deed[0] in ("neg", "one")) for deed in row[1])
    carries.remove(first)
    numbers = {carry: at for at, carry in enumerate([first] + carries)}
    machine = []
    for carry in numbers:
        steps = [by_the_table(row, carry, bits) for bits in all_tuples(row[0])]
        machine.append([(told[row[2]], numbers[after]) for told, after in steps])
    return machine


def with_more_states(rand, machine):
    """A machine that tells the same, with two or three states for each, led to by chance, and others never met."""
    copies = {at: [at] for at in range(len(machine))}
    owners = list(range(len(machine)))
    for at in range(len(machine)):
        for _ in range(rand.randint(1, 2)):
            copies[at].append(len(owners))
            owners.append(at)
    return [[(bit, rand.choice(copies[after])) for bit, after in machine[owner]] for owner in owners], owners


def some_machine(rand, many, states):
    return [[(rand.randint(0, 1), rand.randrange(states)) for _ in range(2 ** many)] for _ in range(states)]


class LeastMachine(Asked):
    def form(self, row, machine):
        self.assertIs(type(machine), list)
        for state in machine:
            self.assertIs(type(state), list)
            self.assertEqual(len(state), 2 ** row[0])
            for step in state:
                self.assertEqual([type(step), *map(type, step)], [tuple, int, int])
                self.assertIn(step[0], (0, 1))
                self.assertIn(step[1], range(len(machine)))
        self.assertEqual(len({id(state) for state in machine}), len(machine))

    def numbered_as_they_are_first_met(self, row, machine):
        met = [0]
        for state in machine:
            for bit, after in state:
                if after not in met:
                    met.append(after)
        self.assertEqual(met, list(range(len(machine))), row)

    def told(self, row, expected=None):
        machine = self.asked(least_machine, row)
        self.form(row, machine)
        self.numbered_as_they_are_first_met(row, machine)
        if expected is not None:
            self.assertEqual(machine, expected, row)
        return machine

    def test_machines_by_hand(self):
        self.told((1, (), 0), [[(0, 0), (1, 0)]])
        self.told((2, (), 0), [[(0, 0), (0, 0), (1, 0), (1, 0)]])
        self.told((2, (), 1), [[(0, 0), (1, 0), (0, 0), (1, 0)]])
        self.told((3, (), 1), [[(0, 0), (0, 0), (1, 0), (1, 0)] * 2])
        self.told(spelled(1, "none"), [[(0, 0), (0, 0)]])
        self.told(spelled(1, "all"), [[(1, 0), (1, 0)]])
        self.told(spelled(1, "one"), [[(1, 1), (1, 1)], [(0, 1), (0, 1)]])
        self.told(spelled(1, "not 0"), [[(1, 0), (0, 0)]])
        self.told(spelled(1, "neg 0"), [[(0, 0), (1, 1)], [(1, 1), (0, 1)]])
        self.told(spelled(1, "twice 0"), [[(0, 0), (0, 1)], [(1, 0), (1, 1)]])
        self.told(spelled(2, "and 0 1"), [[(0, 0), (0, 0), (0, 0), (1, 0)]])
        self.told(spelled(2, "or 0 1"), [[(0, 0), (1, 0), (1, 0), (1, 0)]])
        self.told(spelled(2, "xor 0 1"), [[(0, 0), (1, 0), (1, 0), (0, 0)]])
        self.told(spelled(2, "add 0 1"), [[(0, 0), (1, 0), (1, 0), (0, 1)], [(1, 0), (0, 1), (0, 1), (1, 1)]])
        self.told(spelled(2, "sub 0 1"), [[(0, 0), (1, 1), (1, 0), (0, 0)], [(1, 1), (0, 1), (0, 0), (1, 1)]])
        # Three times a word: nothing carried, one, two.
        self.told(spelled(1, "twice 0", "add 0 1"), [[(0, 0), (1, 1)], [(1, 0), (0, 2)], [(0, 1), (1, 2)]])
        # Four times a word: the last two bits, as they are first met: 00, 01, 10, 11.
        self.told(doubled(1, 2), [[(0, 0), (0, 1)], [(0, 2), (0, 3)], [(1, 0), (1, 1)], [(1, 2), (1, 3)]])

    def test_how_many_states(self):
        for times in range(9):
            self.assertEqual(len(self.told(doubled(1, times))), 2 ** times)
            self.assertEqual(len(self.told(doubled(3, times, "add"))), 2 ** times)
        for times in range(8):
            constant = (1, (("one",),) + tuple(("twice", at) for at in range(1, 1 + times)), 1 + times)
            self.assertEqual(len(self.told(constant)), times + 2)

    def test_fewest_states(self):
        for row in some_rows(141, 200) + lively_rows(141, 200):
            machine = self.told(row)
            whole = carry_machine(row)
            few = fewest(whole)
            kinds = {tuple((one, other) in few for other in range(len(whole))) for one in range(len(whole))}
            self.assertEqual(len(machine), len(kinds), row)

    def test_it_is_the_rows(self):
        for row in some_rows(142, 270) + lively_rows(142, 270):
            machine, whole = self.told(row), carry_machine(row)
            # Side by side with a machine made of the row's carries, through all pairs of states.
            known, waiting = {(0, 0)}, [(0, 0)]
            while waiting:
                one, other = waiting.pop()
                for (bit, after), (others_bit, others_after) in zip(machine[one], whole[other]):
                    self.assertEqual(bit, others_bit, row)
                    if (after, others_after) not in known:
                        known.add((after, others_after))
                        waiting.append((after, others_after))
            # Each carry goes with one state only, or it would not be the least one.
            self.assertEqual(len(known), len(whole), row)

    def test_alike_rows_have_one_and_others_not(self):
        machines = {name: [self.told(row) for row in rows] for name, rows in GROUPS.items()}
        for one, other in itertools.product(GROUPS, GROUPS):
            for first, second in itertools.product(machines[one], machines[other]):
                self.assertEqual(first == second, one == other, (one, other))
        seen = {True: 0, False: 0}
        for row, other in some_pairs(143, 1500):
            same = alike(row, other)[0] == "alike"
            seen[same] += 1
            self.assertEqual(least_machine(row) == least_machine(other), same, (row, other))
        self.assertGreater(seen[True], 500)
        self.assertGreater(seen[False], 500)

    def test_told_twice_with_the_first_one_changed_in_between(self):
        for row in some_rows(144, 81):
            first, second = least_machine(row), least_machine(row)
            self.assertEqual(first, second)
            self.assertEqual(len({id(thing) for thing in (first, second, *first, *second)}), 2 * len(first) + 2)
            first[0].clear()
            first.append([])
            self.assertEqual(least_machine(row), second)


class ToldBy(Asked):
    def told(self, machine, width, words, expected):
        result = self.asked(told_by, machine, width, words)
        self.assertIs(type(result), int)
        self.assertEqual(result, expected, (machine, width, words))

    def test_machines_by_hand(self):
        flip = [[(0, 1), (1, 1)], [(1, 0), (0, 0)]]
        self.told(flip, 4, [0], 10)
        self.told(flip, 4, [15], 5)
        self.told(flip, 5, [0b00110], 0b01100)
        self.told(flip, 1, [1], 1)
        second = [[(0, 0), (1, 0), (0, 0), (1, 0)]]
        self.told(second, 4, [12, 10], 10)
        third = [[(0, 0), (1, 0)] * 4]
        self.told(third, 60, [0, 7, 2 ** 59], 2 ** 59)
        first = [[(0, 0)] * 4 + [(1, 0)] * 4]
        self.told(first, 60, [2 ** 60 - 1, 7, 2 ** 59], 2 ** 60 - 1)

    def test_a_rows_machine_tells_its_worth(self):
        rand = chance(151)
        for row in some_rows(152, 81) + lively_rows(152, 81):
            machine = least_machine(row)
            for width in range(1, 61):
                words = [rand.randint(0, 2 ** width - 1) for _ in range(row[0])]
                self.told(machine, width, words, worth(row, width, words))
            for width in (60, 61, 64, 100):
                words = [rand.choice(words_to_try(width, rand.random())) for _ in range(row[0])]
                self.told(machine, width, words, worth(row, width, words))

    def test_all_words_of_small_widths(self):
        for row in some_rows(153, 81):
            machine = least_machine(row)
            for width in (1, 2, 3):
                for words in all_words(row[0], width):
                    self.told(machine, width, words, worth(row, width, words))

    def test_machines_of_more_states_than_the_least_one(self):
        rand = chance(154)
        for row in some_rows(155, 67) + lively_rows(155, 67):
            for machine in (carry_machine(row), with_more_states(rand, least_machine(row))[0]):
                for width in (1, 2, 7, 33, 60, 61):
                    words = [rand.randint(0, 2 ** width - 1) for _ in range(row[0])]
                    self.told(machine, width, words, worth(row, width, words))

    def test_a_machine_of_very_many_states(self):
        # It tells 1 at each bit whose place is the number of the state, in turn, and goes round.
        machine = [[(at % 2, (at + 1) % 3001), (1 - at % 2, (at + 1) % 3001)] for at in range(3001)]
        odd = sum(2 ** at for at in range(1, 60, 2))
        self.told(machine, 60, [0], odd)
        self.told(machine, 60, [2 ** 60 - 1], 2 ** 60 - 1 - odd)

    def test_the_machine_and_words_are_not_kept(self):
        machine, words = least_machine(spelled(2, "add 0 1")), [3, 4]
        self.told(machine, 8, words, 7)
        words[0] = 5
        self.told(machine, 8, words, 9)
        machine[0][:] = [(1, 0)] * 4
        self.told(machine, 8, words, 255)


class Parting(Asked):
    def told(self, machine, one, other, expected):
        result = self.asked(parting, machine, one, other)
        self.assertEqual(result, expected, (machine, one, other))
        if expected is not None:
            self.assertIs(type(result), list)
            for bits in result:
                self.assertEqual([type(bits), *map(type, bits)], [tuple] + [int] * inputs_of(machine))

    def each_two(self, machine):
        few = fewest(machine)
        for one, other in itertools.product(range(len(machine)), repeat=2):
            self.told(machine, one, other, first_of_the_fewest(machine, one, other, few))
        return few

    def by_all_lists_of_bits(self, machine, one, other, longest):
        """The first list of bits that parts, going through all of them, the shorter ones ahead."""
        choices = all_tuples(inputs_of(machine))
        for length in range(1, longest + 1):
            for way in itertools.product(choices, repeat=length):
                state, others_state = one, other
                for bits in way:
                    place = int("".join(map(str, bits)), 2)
                    bit, state = machine[state][place]
                    others_bit, others_state = machine[others_state][place]
                if bit != others_bit:
                    return list(way)
        return None

    def test_machines_by_hand(self):
        add = least_machine(spelled(2, "add 0 1"))
        self.told(add, 0, 1, [(0, 0)])
        self.told(add, 1, 0, [(0, 0)])
        self.told(add, 0, 0, None)
        self.told(add, 1, 1, None)
        four = least_machine(doubled(1, 2))
        self.told(four, 0, 1, [(0,), (0,)])
        self.told(four, 0, 2, [(0,)])
        self.told(four, 1, 3, [(0,)])
        self.told(four, 2, 3, [(0,), (0,)])
        # Only the bit 1 parts these two; and the shorter list goes first, though it is not the first as sorted.
        late = [[(0, 0), (0, 1)], [(0, 2), (1, 1)], [(1, 2), (1, 2)]]
        self.told(late, 0, 1, [(1,)])
        # Of two that are as short, the first one as sorted.
        self.told([[(0, 1), (0, 1)], [(0, 1), (0, 1)], [(0, 3), (0, 3)], [(1, 3), (0, 3)]], 0, 2, [(0,), (0,)])
        self.told([[(0, 1), (0, 1)], [(0, 1), (0, 1)], [(0, 1), (0, 3)], [(0, 3), (1, 3)]], 0, 2, [(1,), (1,)])

    def test_each_two_states_of_least_machines(self):
        lengths = set()
        for row in some_rows(161, 150) + lively_rows(161, 150):
            machine = least_machine(row)
            if len(machine) <= 40:
                few = self.each_two(machine)
                self.assertEqual(len(few), len(machine) * (len(machine) - 1), row)
                lengths |= set(few.values())
        self.assertGreaterEqual(len(lengths), 3)

    def test_by_all_lists_of_bits(self):
        rand = chance(162)
        for row in some_rows(163, 100) + lively_rows(163, 100):
            machine = least_machine(row)
            longest = {1: 8, 2: 4, 3: 3}[row[0]]
            for _ in range(4):
                one, other = rand.randrange(len(machine)), rand.randrange(len(machine))
                told = parting(machine, one, other)
                if one == other:
                    self.assertIsNone(told)
                elif len(told) <= longest:
                    self.told(machine, one, other, self.by_all_lists_of_bits(machine, one, other, longest))
                else:
                    self.assertIsNone(self.by_all_lists_of_bits(machine, one, other, longest))

    def test_a_value_doubled_many_times(self):
        for times in (1, 4, 8):
            machine = least_machine(doubled(1, times))
            self.told(machine, 0, 1, [(0,)] * times)

    def test_states_that_tell_alike_for_ever(self):
        rand = chance(164)
        none = 0
        for row in some_rows(165, 80) + lively_rows(165, 80):
            machine = least_machine(row)
            if len(machine) <= 12:
                more, owners = with_more_states(rand, machine)
                for one, other in itertools.product(range(len(more)), repeat=2):
                    told = parting(more, one, other)
                    self.assertEqual(told is None, owners[one] == owners[other])
                    self.assertEqual(told, parting(machine, owners[one], owners[other]))
                    none += told is None and one != other
        self.assertGreater(none, 300)
        self.told([[(0, 1), (1, 0)], [(0, 0), (1, 1)]], 0, 1, None)

    def test_drawn_machines(self):
        rand = chance(166)
        for at in range(250):
            many = 1 + at % 3
            self.each_two(some_machine(rand, many, rand.randint(1, 9)))

    def test_drawn_machines_whose_states_are_hard_to_part(self):
        rand = chance(167)
        lengths, alike_ones = set(), 0
        for at in range(250):
            states = rand.randint(2, 12)
            machine = [[(0, rand.randrange(states)) for _ in range(2 ** (1 + at % 2))] for _ in range(states)]
            odd = rand.randrange(states)
            machine[odd][-1] = (1, machine[odd][-1][1])
            few = self.each_two(machine)
            lengths |= set(few.values())
            alike_ones += states * (states - 1) - len(few)
        self.assertGreater(max(lengths), 6)
        self.assertGreater(alike_ones, 100)

    def test_a_machine_of_very_many_states(self):
        states = 3000
        line = [[(int(at == states - 1), min(at + 1, states - 1)), (0, 0)] for at in range(states)]
        # Not assertEqual, which would take very long to tell how so long lists differ.
        self.assertTrue(parting(line, 0, 1) == [(0,)] * (states - 1))
        ring = [[(0, (at + 1) % states), (0, (7 * at + 3) % states)] for at in range(states)]
        self.assertTrue(parting(ring, 0, 1) is None)

    def test_told_twice_with_the_first_one_changed_in_between(self):
        machine = least_machine(doubled(1, 3))
        first = parting(machine, 0, 1)
        second = parting(machine, 0, 1)
        self.assertIsNot(first, second)
        first.clear()
        self.told(machine, 0, 1, second)


if __name__ == "__main__":
    unittest.main()
