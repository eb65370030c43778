"""Rows alike or apart, and closed lists of pairs: point 7."""

import itertools
import unittest

from anywide.alike import alike, is_closed
from anywide.errors import NoPair
from anywide.rows import worth
from refusals import Asked
from samples import (
    GROUPS, all_words, chance, changed_deed, doubled, put_alike, some_pairs, some_row, some_rows, spelled,
)
from tables import all_tuples, by_the_table, start_by_the_table

# How many bits of words in all are gone through for one row.
MOST_BITS = 12


def both_by_the_table(row, other, pair, bits):
    """The bits of both outs, and the pair of the next carries."""
    told, after = by_the_table(row, pair[0], bits)
    others_told, others_after = by_the_table(other, pair[1], bits)
    return told[row[2]], others_told[other[2]], (after, others_after)


def levels(row, other):
    """(all pairs of carries that come, the number of bits by which the first pair comes that parts, or None)."""
    level = known = {(start_by_the_table(row), start_by_the_table(other))}
    width, parts = 0, None
    while level:
        width += 1
        comes = set()
        for pair, bits in itertools.product(level, all_tuples(row[0])):
            bit, others_bit, after = both_by_the_table(row, other, pair, bits)
            comes.add(after)
            if bit != others_bit and parts is None:
                parts = width
        level = comes - known
        known = known | comes
    return known, parts


def closed_by_its_words(row, other, pairs):
    listed = frozenset(pairs)
    if (start_by_the_table(row), start_by_the_table(other)) not in listed:
        return False
    for pair, bits in itertools.product(listed, all_tuples(row[0])):
        bit, others_bit, after = both_by_the_table(row, other, pair, bits)
        if bit != others_bit or after not in listed:
            return False
    return True


class Alike(Asked):
    def shown_alike(self, row, other, told):
        self.assertEqual(len(told), 2)
        word, pairs = told
        self.assertEqual(word, "alike")
        self.assertIs(type(pairs), list)
        for pair in pairs:
            self.assertEqual([type(part) for part in (pair, *pair)], [tuple, tuple, tuple])
            self.assertEqual([len(carry) for carry in pair], [len(row[1]), len(other[1])])
            self.assertLessEqual({type(bit) for carry in pair for bit in carry}, {int})
        self.assertTrue(closed_by_its_words(row, other, pairs), (row, other))
        self.assertIs(self.asked(is_closed, row, other, pairs), True)

    def shown_apart(self, row, other, told):
        self.assertEqual(len(told), 3)
        word, width, words = told
        self.assertEqual(word, "apart")
        self.assertIs(type(width), int)
        self.assertIs(type(words), list)
        self.assertEqual([type(word) for word in words], [int] * row[0])
        self.assertTrue(all(0 <= word < 2 ** width for word in words))
        self.assertNotEqual(worth(row, width, words), worth(other, width, words), (row, other))

    def agree_on_all_words(self, row, other, width):
        for words in all_words(row[0], width):
            self.assertEqual(worth(row, width, words), worth(other, width, words), (row, other, width))

    def told(self, row, other, expected=None):
        """expected is the least width at which they part, "alike", or None where it is worked out here."""
        if expected is None:
            known, parts = levels(row, other)
            expected = parts or "alike"
        told = self.asked(alike, row, other)
        self.assertIs(type(told), tuple)
        if expected == "alike":
            self.shown_alike(row, other, told)
            smaller = range(1, MOST_BITS)
        else:
            self.shown_apart(row, other, told)
            self.assertEqual(told[1], expected, (row, other))
            smaller = range(1, expected)
        for width in smaller:
            if width * row[0] <= (8 if expected == "alike" else MOST_BITS):
                self.agree_on_all_words(row, other, width)
        return expected

    def test_rows_told_alike_by_other_deeds(self):
        for rows in GROUPS.values():
            for row, other in itertools.product(rows, rows):
                self.told(row, other, "alike")

    def test_rows_of_unlike_groups_part(self):
        for one, other in itertools.permutations(GROUPS, 2):
            self.assertNotEqual(self.told(GROUPS[one][-1], GROUPS[other][-1]), "alike", (one, other))
            self.assertNotEqual(self.told(GROUPS[one][0], GROUPS[other][0]), "alike", (one, other))

    def test_rows_that_part_at_width_one(self):
        self.told((1, (), 0), spelled(1, "not 0"), 1)
        self.told((2, (), 0), (2, (), 1), 1)
        self.told((3, (), 2), (3, (), 0), 1)
        self.told(spelled(1, "none"), spelled(1, "one"), 1)
        self.told(spelled(2, "and 0 1"), spelled(2, "or 0 1"), 1)
        self.told(spelled(3, "or 0 1", "or 3 2"), spelled(3, "xor 0 1", "xor 3 2"), 1)

    def test_rows_that_part_at_width_two(self):
        self.told((1, (), 0), spelled(1, "neg 0"), 2)
        self.told(spelled(1, "one"), spelled(1, "all"), 2)
        self.told(spelled(1, "twice 0"), spelled(1, "none"), 2)
        self.told(spelled(2, "add 0 1"), spelled(2, "xor 0 1"), 2)
        self.told(spelled(2, "add 0 1"), spelled(2, "sub 0 1"), 2)
        self.told(spelled(2, "sub 0 1"), spelled(2, "sub 1 0"), 2)
        self.told(spelled(3, "twice 2"), spelled(3, "twice 0"), 2)

    def test_rows_that_part_at_greater_widths(self):
        for times in range(9):
            for many in (1, 2, 3):
                for word in ("twice", "add"):
                    self.told(doubled(many, times, word), spelled(many, "none"), times + 1)
                    self.told(spelled(many, "none"), doubled(many, times, word), times + 1)
        self.told(spelled(1, "all", "twice 1", "twice 2", "twice 3"), spelled(1, "none"), 4)
        self.told(spelled(1, "add 0 0", "add 1 0"), spelled(1, "neg 0"), 3)
        self.told(doubled(1, 8), doubled(1, 7), 8)
        self.told(doubled(3, 8), doubled(3, 7, "add"), 8)

    def test_a_width_beyond_sixty(self):
        # More deeds than a row has, but nothing is refused for that.
        row = (1, (("one",),) + tuple(("twice", at) for at in range(1, 71)), 71)
        self.told(row, spelled(1, "none"), 71)
        self.assertEqual(worth(row, 71, [0]), 2 ** 70)

    def test_a_row_against_itself(self):
        for row in some_rows(71, 270):
            self.told(row, row, "alike")
            self.assertLessEqual({carry == other for carry, other in alike(row, row)[1]}, {True})

    def test_rows_of_no_deeds(self):
        for many in (1, 2, 3):
            for out, others_out in itertools.product(range(many), repeat=2):
                self.told((many, (), out), (many, (), others_out), "alike" if out == others_out else 1)
        self.told((1, (), 0), spelled(1, "and 0 0"), "alike")
        self.told(spelled(1, "twice 0"), (1, (), 0), 1)

    def test_drawn_rows(self):
        seen = {}
        for row, other in some_pairs(72, 1800):
            expected = self.told(row, other)
            seen[expected] = seen.get(expected, 0) + 1
        self.assertGreater(seen["alike"], 500)
        self.assertGreater(seen[1], 300)
        self.assertGreater(seen[2], 40)
        self.assertGreater(sum(many for width, many in seen.items() if width not in ("alike", 1, 2)), 5)

    def test_alike_just_where_no_pair_that_comes_parts_the_outs(self):
        for row, other in some_pairs(73, 600):
            known, parts = levels(row, other)
            told = alike(row, other)
            self.assertEqual(told[0] == "alike", parts is None)
            self.assertIs(is_closed(row, other, sorted(known)), parts is None)
            if parts is None:
                self.assertLessEqual(known, set(told[1]))

    def test_the_other_way_about(self):
        for row, other in some_pairs(74, 400):
            one, another = alike(row, other), alike(other, row)
            self.assertEqual(one[0], another[0])
            if one[0] == "apart":
                self.assertEqual(one[1], another[1])

    def test_told_twice_with_the_first_one_changed_in_between(self):
        for row, other in some_pairs(75, 200) + [((1, (), 0), (1, (), 0)), (spelled(1, "not 0"), (1, (), 0))]:
            first = alike(row, other)
            kind = (first[0], *first[1:-1])
            first[-1].clear()
            second = alike(row, other)
            self.assertEqual((second[0], *second[1:-1]), kind)
            self.assertIsNot(first[-1], second[-1])
            self.told(row, other, "alike" if kind[0] == "alike" else kind[1])
            second[-1].append("more")
            self.told(row, other, "alike" if kind[0] == "alike" else kind[1])

    def test_all_pairs_of_many_carries(self):
        row = (2, (("twice", 0),) + tuple(("twice", at) for at in range(2, 8)) + (("none",),), 9)
        other = (2, (("twice", 1),) + tuple(("twice", at) for at in range(2, 8)) + (("none",),), 9)
        word, pairs = alike(row, other)
        self.assertEqual(word, "alike")
        self.assertEqual(len(set(pairs)), 2 ** 14)
        self.assertIs(is_closed(row, other, pairs), True)
        self.assertIs(is_closed(row, other, pairs[:-1]), False)

    def test_unlike_numbers_of_inputs(self):
        rand = chance(76)
        for many, others_many in itertools.permutations((1, 2, 3), 2):
            self.refused(NoPair, alike, (many, (), 0), (others_many, (), 0))
            for _ in range(20):
                self.refused(NoPair, alike, some_row(rand, many), some_row(rand, others_many))
            # Whether they would part or not does not matter.
            self.refused(NoPair, alike, spelled(many, "none"), spelled(others_many, "none"))
            self.refused(NoPair, alike, spelled(many, "none"), spelled(others_many, "one"))


class IsClosed(Asked):
    def told(self, row, other, pairs, expected):
        self.assertIs(self.asked(is_closed, row, other, pairs), expected, (row, other, pairs))

    def by_its_words(self, row, other, pairs):
        expected = closed_by_its_words(row, other, pairs)
        self.told(row, other, pairs, expected)
        return expected

    def alike_rows(self):
        rand = chance(81)
        rows = [(row, put_alike(rand, row)) for row in some_rows(82, 240)]
        for group in GROUPS.values():
            rows.extend(zip(group, group[1:]))
        return rows

    def test_rows_by_hand(self):
        row, other = spelled(1, "twice 0"), spelled(1, "add 0 0")
        both = [((0,), (0,)), ((1,), (1,))]
        self.told(row, other, both, True)
        self.told(row, other, both[::-1], True)
        self.told(row, other, both + both, True)
        self.told(row, other, both[:1], False)
        self.told(row, other, both[1:], False)
        self.told(row, other, both + [((0,), (1,))], False)
        self.told(row, other, both + [((1,), (0,))], False)
        self.told(row, other, [], False)
        self.told((1, (), 0), (1, (), 0), [((), ())], True)
        self.told((1, (), 0), (1, (), 0), [((), ()), ((), ())], True)
        self.told((1, (), 0), (1, (), 0), [], False)
        self.told((2, (), 0), (2, (), 1), [((), ())], False)

    def test_pairs_that_never_come_are_looked_at_too(self):
        # Nothing less itself has the carry 0 only; with 1 it would tell 1 for ever.
        row, other = spelled(1, "sub 0 0"), spelled(1, "none")
        self.told(row, other, [((0,), (0,))], True)
        self.told(row, other, [((0,), (0,)), ((0,), (1,))], True)
        self.told(row, other, [((0,), (1,)), ((0,), (0,))], True)
        self.told(row, other, [((0,), (1,))], False)
        self.told(row, other, [((0,), (0,)), ((1,), (0,))], False)
        # And the carry 1 of "not" leads to 0.
        row = spelled(1, "not 0")
        self.told(row, row, [((0,), (0,)), ((1,), (0,)), ((0,), (1,)), ((1,), (1,))], True)
        self.told(row, row, [((1,), (1,)), ((0,), (0,))], True)
        self.told(row, row, [((1,), (1,)), ((0,), (1,))], False)

    def test_told_lists_and_others_made_of_them(self):
        rand = chance(83)
        for row, other in self.alike_rows():
            word, pairs = alike(row, other)
            self.assertEqual(word, "alike")
            self.told(row, other, pairs, True)
            self.told(row, other, sorted(pairs), True)
            self.told(row, other, rand.sample(pairs, len(pairs)), True)
            self.told(row, other, pairs + [rand.choice(pairs)], True)
            self.told(row, other, [], False)
            for at in {0, len(pairs) - 1, rand.randrange(len(pairs))}:
                self.by_its_words(row, other, pairs[:at] + pairs[at + 1:])
            first = (start_by_the_table(row), start_by_the_table(other))
            self.told(row, other, [pair for pair in pairs if pair != first], False)

    def test_a_pair_out_of_all_that_come(self):
        for row, other in self.alike_rows():
            known, parts = levels(row, other)
            self.assertIsNone(parts)
            self.told(row, other, sorted(known), True)
            for gone in sorted(known)[:12]:
                self.told(row, other, sorted(known - {gone}), False)

    def test_one_carry_turned_in_either_tuple(self):
        rand = chance(84)
        seen = {True: 0, False: 0}
        for row, other in self.alike_rows():
            pairs = alike(row, other)[1]
            for side in (0, 1):
                if not (row, other)[side][1]:
                    continue
                at = rand.randrange(len(pairs))
                carries = [list(carry) for carry in pairs[at]]
                place = rand.randrange(len(carries[side]))
                carries[side][place] = 1 - carries[side][place]
                turned = tuple(map(tuple, carries))
                seen[self.by_its_words(row, other, pairs[:at] + [turned] + pairs[at + 1:])] += 1
                seen[self.by_its_words(row, other, pairs + [turned])] += 1
                seen[self.by_its_words(row, other, [turned] + pairs)] += 1
        self.assertGreater(seen[True], 50)
        self.assertGreater(seen[False], 200)

    def test_lists_with_further_pairs(self):
        rand = chance(85)
        seen = {True: 0, False: 0}
        for row, other in self.alike_rows():
            pairs = alike(row, other)[1]
            further = [tuple(tuple(rand.randint(0, 1) for _ in deeds) for deeds in (row[1], other[1])) for _ in "ab"]
            seen[self.by_its_words(row, other, further + pairs)] += 1
            seen[self.by_its_words(row, other, pairs + further[:1])] += 1
        self.assertGreater(seen[True], 30)
        self.assertGreater(seen[False], 100)

    def test_all_pairs_there_are(self):
        seen = {True: 0, False: 0}
        rand = chance(86)
        for row in some_rows(87, 400):
            row = (row[0], row[1][:3], min(row[2], row[0] + len(row[1][:3]) - 1))
            other = rand.choice([put_alike(rand, row), row, changed_deed(rand, row)])
            if len(other[1]) <= 4:
                pairs = list(itertools.product(all_tuples(len(row[1])), all_tuples(len(other[1]))))
                seen[self.by_its_words(row, other, pairs)] += 1
        self.assertGreater(seen[True], 20)
        self.assertGreater(seen[False], 50)

    def test_rows_that_part_have_no_closed_list(self):
        for row, other in some_pairs(88, 300):
            known, parts = levels(row, other)
            if parts is not None:
                self.told(row, other, sorted(known), False)

    def test_any_lists_of_small_rows(self):
        rows = [spelled(1, "none"), spelled(1, "sub 0 0"), spelled(1, "twice 0"), spelled(1, "add 0 0"), (1, (), 0),
                spelled(1, "neg 0"), spelled(1, "all"), spelled(1, "one")]
        seen = {True: 0, False: 0}
        for row, other in itertools.product(rows, rows):
            pairs = list(itertools.product(all_tuples(len(row[1])), all_tuples(len(other[1]))))
            for many in range(len(pairs) + 1):
                for chosen in itertools.permutations(pairs, many):
                    seen[self.by_its_words(row, other, list(chosen))] += 1
        self.assertGreater(seen[True], 100)
        self.assertGreater(seen[False], 1000)

    def test_the_list_is_not_kept(self):
        row = spelled(1, "twice 0")
        pairs = alike(row, row)[1]
        self.told(row, row, pairs, True)
        gone = pairs.pop()
        self.told(row, row, pairs, False)
        pairs.append(gone)
        self.told(row, row, pairs, True)

    def test_unlike_numbers_of_inputs_whatever_the_list(self):
        for many, others_many in itertools.permutations((1, 2, 3), 2):
            row, other = spelled(many, "twice 0"), spelled(others_many, "twice 0")
            both = [((0,), (0,)), ((1,), (1,))]
            for pairs in ([], both, both[:1], [((1,), (0,))], [((0, 0), (0,))], [()], [None], [[[], []]], None, 7, "no"):
                self.refused(NoPair, is_closed, row, other, pairs)
            self.refused(NoPair, is_closed, (many, (), 0), (others_many, (), 0), [((), ())])


if __name__ == "__main__":
    unittest.main()
