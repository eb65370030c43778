"""One row at most another one, and closed lists of triples: point 11."""

import itertools
import unittest

from anywide.atmost import at_most, is_never_greater
from anywide.errors import NoPair
from anywide.rows import worth
from refusals import Asked
from samples import (
    GROUPS, all_words, chance, changed_deed, doubled, lively_rows, put_alike, some_pairs, some_row, some_rows, spelled,
)
from tables import all_tuples, by_the_table, start_by_the_table

# How many bits of words in all are gone through for one row.
MOST_BITS = 12


def start_of(row, other):
    return (start_by_the_table(row), start_by_the_table(other), 0)


def triple_by_the_table(row, other, triple, bits):
    told, after = by_the_table(row, triple[0], bits)
    others_told, others_after = by_the_table(other, triple[1], bits)
    sign = {(0, 1): 1, (1, 0): 2}.get((told[row[2]], others_told[other[2]]), triple[2])
    return after, others_after, sign


def levels(row, other):
    """(all triples that come, also behind 2, and by how many bits the first one with 2 comes, or None)."""
    level = known = {start_of(row, other)}
    width, greater = 0, None
    while level:
        width += 1
        comes = {triple_by_the_table(row, other, *pair) for pair in itertools.product(level, all_tuples(row[0]))}
        if greater is None and any(sign == 2 for carry, others_carry, sign in comes):
            greater = width
        level = comes - known
        known = known | comes
    return known, greater


def closed_by_its_words(row, other, triples):
    listed = frozenset(triples)
    if start_of(row, other) not in listed or any(triple[2] == 2 for triple in listed):
        return False
    for triple, bits in itertools.product(listed, all_tuples(row[0])):
        if triple_by_the_table(row, other, triple, bits) not in listed:
            return False
    return True


def with_a_last_deed(row, word, value):
    """The row with one more deed, of its out and of a value, as its worth."""
    return (row[0], row[1] + ((word, row[2], value),), row[0] + len(row[1]))


def rows_that_are_at_most():
    """Pairs of rows, the first one at most the other one."""
    rand = chance(91)
    pairs = []
    for row in some_rows(92, 81) + lively_rows(93, 135):
        if len(row[1]) < 8:
            value = rand.randrange(row[0] + len(row[1]))
            pairs.append((with_a_last_deed(row, "and", value), row))
            pairs.append((row, with_a_last_deed(row, "or", value)))
        pairs.append((row, put_alike(rand, row)))
    for group in GROUPS.values():
        pairs.extend(zip(group, group[1:]))
    return pairs


class AtMost(Asked):
    def shown_most(self, row, other, told):
        self.assertEqual(len(told), 2)
        word, triples = told
        self.assertEqual(word, "most")
        self.assertIs(type(triples), list)
        for triple in triples:
            self.assertEqual([type(part) for part in (triple, *triple)], [tuple, tuple, tuple, int])
            self.assertEqual([len(carry) for carry in triple[:2]], [len(row[1]), len(other[1])])
            self.assertLessEqual({type(bit) for carry in triple[:2] for bit in carry}, {int})
            self.assertIn(triple[2], (0, 1))
        self.assertTrue(closed_by_its_words(row, other, triples), (row, other))
        self.assertIs(self.asked(is_never_greater, row, other, triples), True)

    def shown_greater(self, row, other, told):
        self.assertEqual(len(told), 3)
        word, width, words = told
        self.assertEqual(word, "greater")
        self.assertIs(type(width), int)
        self.assertIs(type(words), list)
        self.assertEqual([type(word) for word in words], [int] * row[0])
        self.assertTrue(all(0 <= word < 2 ** width for word in words))
        self.assertGreater(worth(row, width, words), worth(other, width, words), (row, other))

    def never_greater_at(self, row, other, width):
        for words in all_words(row[0], width):
            self.assertLessEqual(worth(row, width, words), worth(other, width, words), (row, other, width))

    def told(self, row, other, expected=None):
        """expected is the least width at which it is greater, "most", or None where it is worked out here."""
        if expected is None:
            expected = levels(row, other)[1] or "most"
        told = self.asked(at_most, row, other)
        self.assertIs(type(told), tuple)
        if expected == "most":
            self.shown_most(row, other, told)
            smaller = range(1, MOST_BITS)
        else:
            self.shown_greater(row, other, told)
            self.assertEqual(told[1], expected, (row, other))
            smaller = range(1, expected)
        for width in smaller:
            if width * row[0] <= (8 if expected == "most" else MOST_BITS):
                self.never_greater_at(row, other, width)
        return expected

    def test_a_row_and_itself(self):
        for row in some_rows(94, 270):
            self.told(row, row, "most")

    def test_between_none_and_all(self):
        for row in some_rows(95, 180):
            self.told(spelled(row[0], "none"), row, "most")
            self.told(row, spelled(row[0], "all"), "most")
        for many in (1, 2, 3):
            self.told(spelled(many, "none"), spelled(many, "all"), "most")
            self.told(spelled(many, "all"), spelled(many, "none"), 1)
            # At the width 1 one is all.
            self.told(spelled(many, "all"), spelled(many, "one"), 2)
            self.told(spelled(many, "one"), spelled(many, "all"), "most")

    def test_a_row_and_or_one_of_its_values(self):
        for row, other in rows_that_are_at_most():
            self.told(row, other, "most")
            self.told(other, row)

    def test_or_and_and_the_other_way_about(self):
        self.told((2, (), 0), spelled(2, "and 0 1"), 1)
        self.told(spelled(2, "or 0 1"), (2, (), 1), 1)
        self.told(spelled(2, "or 0 1"), spelled(2, "and 0 1"), 1)
        self.told(spelled(2, "xor 0 1"), spelled(2, "or 0 1"), "most")
        self.told(spelled(2, "or 0 1"), spelled(2, "xor 0 1"), 1)

    def test_rows_told_alike_by_other_deeds(self):
        for rows in GROUPS.values():
            for row, other in itertools.product(rows, rows):
                self.told(row, other, "most")

    def test_rows_of_unlike_groups_are_greater_one_way_about_at_least(self):
        for one, other in itertools.combinations(GROUPS, 2):
            ways = [self.told(*pair) for pair in itertools.permutations((GROUPS[one][-1], GROUPS[other][-1]))]
            self.assertNotEqual(ways, ["most", "most"], (one, other))

    def test_rows_that_are_greater_at_width_one(self):
        self.told((1, (), 0), spelled(1, "not 0"), 1)
        self.told(spelled(1, "not 0"), (1, (), 0), 1)
        self.told((2, (), 0), (2, (), 1), 1)
        self.told((3, (), 2), (3, (), 0), 1)
        self.told(spelled(1, "one"), spelled(1, "none"), 1)
        self.told((1, (), 0), spelled(1, "twice 0"), 1)

    def test_rows_that_are_greater_at_width_two(self):
        self.told((1, (), 0), spelled(1, "neg 0"), 2)
        self.told(spelled(1, "neg 0"), (1, (), 0), 2)
        self.told(spelled(1, "twice 0"), (1, (), 0), 2)
        self.told(spelled(1, "twice 0"), spelled(1, "none"), 2)
        self.told(spelled(2, "add 0 1"), spelled(2, "or 0 1"), 2)
        self.told(spelled(2, "add 0 1"), spelled(2, "sub 0 1"), 2)
        self.told((1, (), 0), spelled(1, "one"), 2)

    def test_rows_that_are_greater_at_greater_widths(self):
        for times in range(9):
            for many in (1, 2, 3):
                for word in ("twice", "add"):
                    self.told(doubled(many, times, word), spelled(many, "none"), times + 1)
                    self.told(spelled(many, "none"), doubled(many, times, word), "most")
        self.told(spelled(1, "all", "twice 1", "twice 2", "twice 3"), spelled(1, "one"), 4)
        self.told(spelled(1, "one", "twice 1", "twice 2", "twice 3", "twice 4"), spelled(1, "one", "twice 1"), 5)
        self.told(spelled(1, "one", "twice 1", "twice 2", "and 0 3"), spelled(1, "one", "or 0 1", "and 0 1"), 3)

    def test_greater_at_one_width_and_not_at_the_next(self):
        # Two and four: at the width 2 four is nothing.
        row, other = spelled(1, "one", "twice 1"), spelled(1, "one", "twice 1", "twice 2")
        self.told(row, other, 2)
        self.assertLess(worth(row, 3, [0]), worth(other, 3, [0]))
        # What was below by lower bits is greater by a higher one, and the other way about.
        self.told(spelled(1, "one", "twice 1"), spelled(1, "one"), 2)
        self.told(spelled(1, "one"), spelled(1, "one", "twice 1"), 1)

    def test_a_width_beyond_sixty(self):
        # More deeds than a row has, but nothing is refused for that.
        row = (1, (("one",),) + tuple(("twice", at) for at in range(1, 71)), 71)
        self.told(row, spelled(1, "none"), 71)
        self.told(spelled(1, "none"), row, "most")
        self.told(row, spelled(1, "one"), 71)

    def test_rows_of_no_deeds(self):
        for many in (1, 2, 3):
            for out, others_out in itertools.product(range(many), repeat=2):
                self.told((many, (), out), (many, (), others_out), "most" if out == others_out else 1)

    def test_drawn_rows(self):
        seen = {}
        for row, other in some_pairs(96, 1500):
            expected = self.told(row, other)
            seen[expected] = seen.get(expected, 0) + 1
        self.assertGreater(seen["most"], 400)
        self.assertGreater(seen[1], 300)
        self.assertGreater(seen[2], 40)
        self.assertGreater(sum(many for width, many in seen.items() if width not in ("most", 1, 2)), 3)

    def test_a_closed_list_just_where_no_triple_with_two_comes(self):
        for row, other in some_pairs(97, 500) + rows_that_are_at_most()[::3]:
            known, greater = levels(row, other)
            self.assertEqual(greater is None, all(triple[2] != 2 for triple in known))
            told = at_most(row, other)
            self.assertEqual(told[0] == "most", greater is None)
            self.assertIs(is_never_greater(row, other, sorted(known)), greater is None)
            if greater is None:
                self.assertLessEqual(known, set(told[1]))

    def test_told_twice_with_the_first_one_changed_in_between(self):
        for row, other in some_pairs(98, 200) + [((1, (), 0), (1, (), 0)), (spelled(1, "not 0"), (1, (), 0))]:
            first = at_most(row, other)
            kind = (first[0], *first[1:-1])
            first[-1].clear()
            second = at_most(row, other)
            self.assertEqual((second[0], *second[1:-1]), kind)
            self.assertIsNot(first[-1], second[-1])
            self.told(row, other, "most" if kind[0] == "most" else kind[1])
            second[-1].append("more")
            self.told(row, other, "most" if kind[0] == "most" else kind[1])

    def test_unlike_numbers_of_inputs(self):
        rand = chance(99)
        for many, others_many in itertools.permutations((1, 2, 3), 2):
            self.refused(NoPair, at_most, (many, (), 0), (others_many, (), 0))
            for _ in range(20):
                self.refused(NoPair, at_most, some_row(rand, many), some_row(rand, others_many))
            # Whether one would be greater or not does not matter.
            self.refused(NoPair, at_most, spelled(many, "none"), spelled(others_many, "all"))
            self.refused(NoPair, at_most, spelled(many, "all"), spelled(others_many, "none"))


class IsNeverGreater(Asked):
    def told(self, row, other, triples, expected):
        self.assertIs(self.asked(is_never_greater, row, other, triples), expected, (row, other, triples))

    def by_its_words(self, row, other, triples):
        expected = closed_by_its_words(row, other, triples)
        self.told(row, other, triples, expected)
        return expected

    def test_rows_by_hand(self):
        row, other = spelled(1, "none"), (1, (), 0)
        both = [((0,), (), 0), ((0,), (), 1)]
        self.told(row, other, both, True)
        self.told(row, other, both[::-1], True)
        self.told(row, other, both + both, True)
        self.told(row, other, both[:1], False)
        self.told(row, other, both[1:], False)
        self.told(row, other, [], False)
        self.told(row, other, both + [((0,), (), 2)], False)
        self.told(row, other, [((0,), (), 2)] + both, False)
        self.told(row, other, both + [((1,), (), 0)], True)
        self.told(row, other, both + [((1,), (), 1)], True)
        self.told(row, other, [((1,), (), 0), both[1]], False)
        self.told(other, row, [((), (0,), 0), ((), (0,), 1)], False)
        self.told(other, row, [((), (0,), 0), ((), (0,), 1), ((), (0,), 2)], False)
        self.told((1, (), 0), (1, (), 0), [((), (), 0)], True)
        self.told((1, (), 0), (1, (), 0), [((), (), 1)], False)
        self.told((1, (), 0), (1, (), 0), [((), (), 0), ((), (), 1)], True)
        self.told((1, (), 0), (1, (), 0), [((), (), 0), ((), (), 2)], False)
        self.told((1, (), 0), (1, (), 0), [], False)

    def test_told_lists_and_others_made_of_them(self):
        rand = chance(101)
        for row, other in rows_that_are_at_most():
            triples = at_most(row, other)[1]
            self.told(row, other, triples, True)
            self.told(row, other, sorted(triples), True)
            self.told(row, other, rand.sample(triples, len(triples)), True)
            self.told(row, other, triples + [rand.choice(triples)], True)
            self.told(row, other, [], False)
            for at in {0, len(triples) - 1, rand.randrange(len(triples))}:
                self.by_its_words(row, other, triples[:at] + triples[at + 1:])
            start = start_of(row, other)
            self.told(row, other, [triple for triple in triples if triple != start], False)
            for sign in (1, 2):
                first = [start[:2] + (sign,)]
                self.told(row, other, first + [triple for triple in triples if triple != start], False)

    def test_a_triple_out_of_all_that_come(self):
        for row, other in rows_that_are_at_most()[::2]:
            known, greater = levels(row, other)
            self.assertIsNone(greater)
            self.told(row, other, sorted(known), True)
            for gone in sorted(known)[:10]:
                self.told(row, other, sorted(known - {gone}), False)

    def test_another_sign(self):
        rand = chance(102)
        seen = {True: 0, False: 0}
        for row, other in rows_that_are_at_most():
            triples = at_most(row, other)[1]
            at = rand.randrange(len(triples))
            carry, others_carry, sign = triples[at]
            for another in {0, 1, 2} - {sign}:
                turned = (carry, others_carry, another)
                seen[self.by_its_words(row, other, triples[:at] + [turned] + triples[at + 1:])] += 1
                seen[self.by_its_words(row, other, triples + [turned])] += 1
                if another == 2:
                    self.told(row, other, triples + [turned], False)
                    self.told(row, other, [turned] + triples, False)
        self.assertGreater(seen[True], 100)
        self.assertGreater(seen[False], 500)

    def test_one_carry_turned_on_either_side(self):
        rand = chance(103)
        seen = {True: 0, False: 0}
        for row, other in rows_that_are_at_most():
            triples = at_most(row, other)[1]
            for side in (0, 1):
                if not (row, other)[side][1]:
                    continue
                at = rand.randrange(len(triples))
                parts = [list(carry) for carry in triples[at][:2]]
                place = rand.randrange(len(parts[side]))
                parts[side][place] = 1 - parts[side][place]
                turned = (*map(tuple, parts), triples[at][2])
                seen[self.by_its_words(row, other, triples[:at] + [turned] + triples[at + 1:])] += 1
                seen[self.by_its_words(row, other, triples + [turned])] += 1
                seen[self.by_its_words(row, other, [turned] + triples)] += 1
        self.assertGreater(seen[True], 100)
        self.assertGreater(seen[False], 300)

    def test_lists_with_further_triples(self):
        rand = chance(104)
        seen = {True: 0, False: 0}
        for row, other in rows_that_are_at_most():
            triples = at_most(row, other)[1]
            further = [
                tuple(tuple(rand.randint(0, 1) for _ in deeds) for deeds in (row[1], other[1])) + (rand.randint(0, 1),)
                for _ in "ab"
            ]
            seen[self.by_its_words(row, other, further + triples)] += 1
            seen[self.by_its_words(row, other, triples + further[:1])] += 1
        self.assertGreater(seen[True], 30)
        self.assertGreater(seen[False], 300)

    def test_all_triples_there_are(self):
        seen = {True: 0, False: 0}
        rand = chance(105)
        for row in some_rows(106, 400):
            row = (row[0], row[1][:3], min(row[2], row[0] + len(row[1][:3]) - 1))
            other = rand.choice([put_alike(rand, row), row, changed_deed(rand, row), spelled(row[0], "all")])
            if len(other[1]) <= 4:
                parts = (all_tuples(len(row[1])), all_tuples(len(other[1])))
                self.told(row, other, list(itertools.product(*parts, (0, 1, 2))), False)
                seen[self.by_its_words(row, other, list(itertools.product(*parts, (0, 1))))] += 1
                seen[self.by_its_words(row, other, list(itertools.product(*parts, (0,))))] += 1
        self.assertGreater(seen[True], 60)
        self.assertGreater(seen[False], 200)

    def test_rows_that_are_greater_have_no_closed_list(self):
        for row, other in some_pairs(107, 300):
            known, greater = levels(row, other)
            if greater is not None:
                self.told(row, other, sorted(known), False)
                self.told(row, other, sorted(triple for triple in known if triple[2] != 2), False)

    def test_any_lists_of_small_rows(self):
        rows = [spelled(1, "none"), spelled(1, "all"), (1, (), 0), spelled(1, "twice 0"), spelled(1, "one")]
        seen = {True: 0, False: 0}
        for row, other in itertools.product(rows, rows):
            triples = list(itertools.product(all_tuples(len(row[1])), all_tuples(len(other[1])), (0, 1, 2)))
            for many in range(min(len(triples), 4) + 1):
                for chosen in itertools.combinations(triples, many):
                    seen[self.by_its_words(row, other, list(chosen))] += 1
                    seen[self.by_its_words(row, other, list(chosen[::-1]))] += 1
        self.assertGreater(seen[True], 40)
        self.assertGreater(seen[False], 4000)

    def test_the_list_is_not_kept(self):
        row = spelled(1, "twice 0")
        triples = at_most(row, row)[1]
        self.told(row, row, triples, True)
        gone = triples.pop()
        self.told(row, row, triples, False)
        triples.append(gone)
        self.told(row, row, triples, True)

    def test_unlike_numbers_of_inputs_whatever_the_list(self):
        for many, others_many in itertools.permutations((1, 2, 3), 2):
            row, other = spelled(many, "none"), spelled(others_many, "all")
            both = [((0,), (0,), 0), ((0,), (0,), 1)]
            for triples in ([], both, both[:1], [((1,), (0,), 2)], [((0, 0), (0,), 0)], [()], [None], [[]], None, 7, "no"):
                self.refused(NoPair, is_never_greater, row, other, triples)
            self.refused(NoPair, is_never_greater, (many, (), 0), (others_many, (), 0), [((), (), 0)])


if __name__ == "__main__":
    unittest.main()
