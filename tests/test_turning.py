"""Rows that are one to one, and the way back: point 9."""

import itertools
import unittest

from anywide.errors import NoRow
from anywide.rows import worth
from anywide.turning import gone_back, is_turning, turned
from refusals import Asked
from samples import GROUPS, bits_from_below, chance, doubled, lively_row, some_row, spelled, words_to_try
from tables import all_tuples, by_the_table, carries_by_the_table, start_by_the_table

ONE_TO_ONE = [
    (1, (), 0), spelled(1, "not 0"), spelled(1, "neg 0"), spelled(1, "one", "add 0 1"), spelled(1, "one", "sub 0 1"),
    spelled(1, "all", "add 0 1"), spelled(1, "twice 0", "add 0 1"), spelled(1, "twice 0", "xor 0 1"),
    spelled(1, "twice 0", "sub 1 0"), spelled(1, "twice 0", "twice 1", "add 0 2"), spelled(1, "and 0 0"),
    spelled(1, "twice 0", "twice 1", "xor 0 2", "xor 3 1"), spelled(1, "not 0", "twice 1", "xor 0 2", "neg 3"),
    spelled(1, "neg 0", "twice 1", "xor 2 0"), spelled(1, "one", "or 0 1", "twice 2", "xor 3 0"),
]

# Each with the least width at which two words meet.
MEETING = [
    (spelled(1, "none"), 1), (spelled(1, "one"), 1), (spelled(1, "all"), 1), (spelled(1, "twice 0"), 1),
    (spelled(1, "add 0 0"), 1), (spelled(1, "sub 0 0"), 1), (spelled(1, "one", "and 0 1"), 2),
    (spelled(1, "one", "or 0 1"), 1), (spelled(1, "neg 0", "or 0 1"), 2), (spelled(1, "neg 0", "and 0 1"), 2),
    (spelled(1, "neg 0", "xor 0 1"), 1), (spelled(1, "twice 0", "and 0 1"), 1), (spelled(1, "twice 0", "or 0 1"), 2),
    (spelled(1, "one", "twice 1", "or 0 2"), 2), (spelled(1, "one", "twice 1", "twice 2", "or 0 3"), 3),
    (spelled(1, "one", "twice 1", "twice 2", "twice 3", "or 0 4"), 4),
    (spelled(1, "one", "twice 1", "twice 2", "twice 3", "twice 4", "not 5", "and 0 6"), 5),
    (spelled(1, "one", "twice 1", "twice 2", "twice 3", "twice 4", "twice 5", "or 0 6"), 6),
    (spelled(1, "one", "twice 1", "twice 2", "twice 3", "twice 4", "twice 5", "twice 6", "or 0 7"), 7),
]


def least_meeting(row, widest):
    """The least width, no greater than widest, at which two words meet, by going through all words; or None."""
    for width in range(1, widest + 1):
        if len({worth(row, width, [word]) for word in range(2 ** width)}) < 2 ** width:
            return width
    return None


def closed_by_its_words(row, carries):
    if start_by_the_table(row) not in carries:
        return False
    for carry in carries:
        (nought, after), (one, others_after) = [by_the_table(row, carry, bits) for bits in ((0,), (1,))]
        if nought[row[2]] == one[row[2]] or after not in carries or others_after not in carries:
            return False
    return True


def some_rows_of_one_input(seed, count):
    """Rows of no to eight deeds; in every second one the worth is brought together with the input."""
    rand = chance(seed)
    rows = []
    for at in range(count):
        length = rand.randint(0, 8)
        row = (some_row if rand.random() < 0.3 else lively_row)(rand, 1, length)
        if at % 2 and length < 8:
            row = (1, row[1] + ((rand.choice(("add", "sub", "xor")), *rand.sample([0, row[2]], 2)),), length + 1)
        rows.append(row)
    return rows


class Turned(Asked):
    def shown_turned(self, row, told):
        self.assertEqual(len(told), 2)
        word, carries = told
        self.assertEqual(word, "turned")
        self.assertIs(type(carries), list)
        self.assertLessEqual({type(carry) for carry in carries}, {tuple})
        self.assertLessEqual({type(bit) for carry in carries for bit in carry}, {int})
        self.assertTrue(closed_by_its_words(row, carries), row)
        self.assertIs(self.asked(is_turning, row, carries), True)

    def shown_meeting(self, row, told):
        self.assertEqual([type(part) for part in told], [str, int, int, int])
        word, width, one, other = told
        self.assertEqual(word, "meet")
        self.assertTrue(0 <= one < other < 2 ** width, told)
        self.assertEqual(worth(row, width, [one]), worth(row, width, [other]), (row, told))

    def told(self, row):
        told = self.asked(turned, row)
        self.assertIs(type(told), tuple)
        if told[0] == "turned":
            self.shown_turned(row, told)
            self.assertIsNone(least_meeting(row, 7), row)
            return None
        self.shown_meeting(row, told)
        if told[1] <= 10:
            self.assertEqual(told[1], least_meeting(row, 10), row)
        else:
            self.assertIsNone(least_meeting(row, 10), row)
        return told[1]

    def test_rows_that_bring_each_word_to_another_one(self):
        for row in ONE_TO_ONE:
            self.assertIsNone(self.told(row), row)

    def test_rows_at_which_words_meet(self):
        for row, width in MEETING:
            self.assertEqual(self.told(row), width, row)

    def test_a_value_doubled_many_times(self):
        for times in range(1, 9):
            for word in ("twice", "add"):
                self.assertEqual(self.told(doubled(1, times, word)), 1)
            # With one of it, it is one to one again.
            if times < 8:
                row = doubled(1, times)
                for word in ("add", "sub", "xor"):
                    self.assertIsNone(self.told((1, row[1] + ((word, 0, times),), times + 1)))

    def test_words_that_meet_beyond_the_width_of_sixty(self):
        deeds = (("one",),) + tuple(("twice", at) for at in range(1, 71)) + (("or", 0, 71),)
        told = turned((1, deeds, 72))
        self.shown_meeting((1, deeds, 72), told)
        self.assertEqual(told[1], 71)
        self.assertEqual(told[3] - told[2], 2 ** 70)

    def test_drawn_rows(self):
        seen = {}
        for row in some_rows_of_one_input(111, 1200):
            width = self.told(row)
            seen[width] = seen.get(width, 0) + 1
        self.assertGreater(seen[None], 100)
        self.assertGreater(seen[1], 300)
        self.assertGreater(seen[2], 10)

    def test_turned_just_where_no_carry_that_comes_tells_one_bit_for_both(self):
        for row in some_rows_of_one_input(112, 600):
            known = carries_by_the_table(row)
            unlike = True
            for carry in known:
                nought, one = [by_the_table(row, carry, bits)[0][row[2]] for bits in ((0,), (1,))]
                unlike = unlike and nought != one
            told = turned(row)
            self.assertEqual(told[0], "turned" if unlike else "meet")
            self.assertIs(is_turning(row, known), unlike)
            if unlike:
                self.assertLessEqual(set(known), set(told[1]))

    def test_told_twice_with_the_first_one_changed_in_between(self):
        for row in ONE_TO_ONE:
            first = turned(row)
            first[1].clear()
            second = turned(row)
            self.assertIsNot(first[1], second[1])
            self.shown_turned(row, second)
            second[1].append("more")
            self.shown_turned(row, turned(row))

    def test_rows_of_more_inputs(self):
        rand = chance(113)
        for many in (2, 3):
            for out in range(many):
                self.refused(NoRow, turned, (many, (), out))
            for _ in range(30):
                self.refused(NoRow, turned, some_row(rand, many))
        for rows in GROUPS.values():
            for row in rows:
                self.refused(NoRow, turned, row)


class IsTurning(Asked):
    def told(self, row, carries, expected):
        self.assertIs(self.asked(is_turning, row, carries), expected, (row, carries))

    def by_its_words(self, row, carries):
        expected = closed_by_its_words(row, carries)
        self.told(row, carries, expected)
        return expected

    def rows(self):
        drawn = [row for row in some_rows_of_one_input(121, 900) if turned(row)[0] == "turned"]
        self.assertGreater(len(drawn), 100)
        return ONE_TO_ONE + drawn

    def test_rows_by_hand(self):
        row = spelled(1, "neg 0")
        self.told(row, [(1,), (0,)], True)
        self.told(row, [(0,), (1,)], True)
        self.told(row, [(0,), (1,), (0,)], True)
        self.told(row, [(1,)], False)
        self.told(row, [(0,)], False)
        self.told(row, [], False)
        self.told((1, (), 0), [()], True)
        self.told((1, (), 0), [(), ()], True)
        self.told((1, (), 0), [], False)
        self.told(spelled(1, "twice 0"), [(0,), (1,)], False)
        # The carry 1 of "not" never comes, but leads to 0 if it is listed.
        self.told(spelled(1, "not 0"), [(0,)], True)
        self.told(spelled(1, "not 0"), [(0,), (1,)], True)
        self.told(spelled(1, "not 0"), [(1,), (0,)], True)
        self.told(spelled(1, "not 0"), [(1,)], False)

    def test_told_lists_and_others_made_of_them(self):
        rand = chance(122)
        for row in self.rows():
            word, carries = turned(row)
            self.told(row, carries, True)
            self.told(row, sorted(carries), True)
            self.told(row, rand.sample(carries, len(carries)), True)
            self.told(row, carries + [rand.choice(carries)], True)
            self.told(row, [], False)
            self.told(row, [carry for carry in carries if carry != start_by_the_table(row)], False)
            for at in range(min(len(carries), 12)):
                self.by_its_words(row, carries[:at] + carries[at + 1:])

    def test_a_carry_out_of_all_that_come(self):
        for row in self.rows():
            known = carries_by_the_table(row)
            self.told(row, known, True)
            for at in range(min(len(known), 12)):
                self.told(row, known[:at] + known[at + 1:], False)

    def test_one_carry_turned_and_further_ones(self):
        rand = chance(123)
        seen = {True: 0, False: 0}
        for row in self.rows():
            carries = turned(row)[1]
            for _ in range(3 if row[1] else 0):
                at = rand.randrange(len(carries))
                other = list(carries[at])
                place = rand.randrange(len(other))
                other[place] = 1 - other[place]
                seen[self.by_its_words(row, carries[:at] + [tuple(other)] + carries[at + 1:])] += 1
                seen[self.by_its_words(row, carries + [tuple(other)])] += 1
                further = tuple(rand.randint(0, 1) for _ in row[1])
                seen[self.by_its_words(row, [further] + carries)] += 1
        self.assertGreater(seen[True], 100)
        self.assertGreater(seen[False], 100)

    def test_any_lists_of_small_rows(self):
        seen = {True: 0, False: 0}
        rows = ONE_TO_ONE + [row for row, width in MEETING]
        for row in [row for row in rows if len(row[1]) <= 2]:
            carries = all_tuples(len(row[1]))
            for many in range(len(carries) + 1):
                for chosen in itertools.permutations(carries, many):
                    seen[self.by_its_words(row, list(chosen))] += 1
        self.assertGreater(seen[True], 50)
        self.assertGreater(seen[False], 500)

    def test_rows_at_which_words_meet_have_no_closed_list(self):
        for row, width in MEETING:
            self.told(row, carries_by_the_table(row), False)
            self.told(row, all_tuples(len(row[1])), False)

    def test_the_list_is_not_kept(self):
        row = spelled(1, "neg 0")
        carries = turned(row)[1]
        self.told(row, carries, True)
        gone = carries.pop()
        self.told(row, carries, False)
        carries.append(gone)
        self.told(row, carries, True)

    def test_rows_of_more_inputs_whatever_the_list(self):
        for many in (2, 3):
            row = spelled(many, "neg 0")
            lists = ([], [(0,)], [(1,)], [(0,), (1,)], [(0, 0)], [()], [None], [[]], None, 7, "no")
            for carries in lists:
                self.refused(NoRow, is_turning, row, carries)
                self.refused(NoRow, is_turning, (many, (), 0), carries)


class GoneBack(Asked):
    def told(self, row, width, word, expected):
        result = self.asked(gone_back, row, width, word)
        self.assertIs(type(result), type(expected), (row, width, word))
        self.assertEqual(result, expected, (row, width, word))

    def by_all_words(self, row, width):
        least = {}
        for word in range(2 ** width):
            least.setdefault(worth(row, width, [word]), word)
        for word in range(2 ** width):
            self.told(row, width, word, least.get(word))
        return len(least)

    def test_all_words_of_small_widths(self):
        rows = ONE_TO_ONE + [row for row, width in MEETING] + some_rows_of_one_input(131, 250)
        seen = set()
        for row in rows:
            for width in range(1, 7):
                seen.add((width, self.by_all_words(row, width)))
        # All words, only one, and other numbers of words are gone back from.
        self.assertGreater(len(seen), 30)

    def test_one_to_one_rows_at_great_widths(self):
        for row in ONE_TO_ONE:
            for width in (1, 2, 31, 59, 60, 61, 64, 100):
                for word in words_to_try(width):
                    self.told(row, width, worth(row, width, [word]), word)
                    back = gone_back(row, width, word)
                    self.assertEqual(worth(row, width, [back]), word)

    def test_drawn_rows_at_great_widths(self):
        none = 0
        for row in some_rows_of_one_input(132, 300):
            for width in (60, 77):
                for word in words_to_try(width):
                    back = self.asked(gone_back, row, width, worth(row, width, [word]))
                    self.assertLessEqual(back, word)
                    self.assertEqual(worth(row, width, [back]), worth(row, width, [word]))
                    back = gone_back(row, width, word)
                    none += back is None
                    if back is not None:
                        self.assertTrue(0 <= back < 2 ** width)
                        self.assertEqual(worth(row, width, [back]), word)
        self.assertGreater(none, 500)

    def test_the_least_word_at_great_widths(self):
        for width in (2, 30, 60, 61, 90):
            top = 2 ** width - 1
            for word in words_to_try(width):
                self.told(spelled(1, "twice 0"), width, word, None if word % 2 else word // 2)
                self.told(spelled(1, "none"), width, word, None if word else 0)
                self.told(spelled(1, "all"), width, word, 0 if word == top else None)
                self.told(spelled(1, "one", "or 0 1"), width, word, word - 1 if word % 2 else None)
                self.told(spelled(1, "one", "and 0 1"), width, word, word if word < 2 else None)
                # Of all words with this lowest bit the least one is that bit alone.
                single = sum(bits_from_below(word, width)) == 1
                self.told(spelled(1, "neg 0", "and 0 1"), width, word, word if single or word == 0 else None)

    def test_a_number_that_is_no_word_of_the_width_is_no_worth(self):
        for row in ONE_TO_ONE:
            for width in (1, 5, 60, 61):
                for number in (2 ** width, 2 ** width + 1, -1):
                    self.told(row, width, number, None)

    def test_rows_of_more_inputs(self):
        rand = chance(133)
        for many in (2, 3):
            for width in (1, 2, 60, 61):
                for word in (0, 1, 2 ** width - 1):
                    self.refused(NoRow, gone_back, (many, (), 0), width, word)
                    self.refused(NoRow, gone_back, spelled(many, "none"), width, word)
                    self.refused(NoRow, gone_back, some_row(rand, many), width, word)


if __name__ == "__main__":
    unittest.main()
