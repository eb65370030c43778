"""The greatest and the least worth, and the greatest amount ahead: point 17."""

import itertools
import unittest

from anywide.alike import alike
from anywide.atmost import at_most
from anywide.errors import NoPair
from anywide.extremes import greatest_ahead, greatest_worth, least_worth
from anywide.rows import worth
from refusals import Asked
from samples import (
    GROUPS, all_words, chance, doubled, lively_rows, put_alike, some_pairs, some_row, some_rows, spelled, words_to_try,
)


def widths_to_go_through(many, most_bits=6):
    return [width for width in range(1, 7) if width * many <= most_bits]


class Told(Asked):
    def pair(self, told, many, width):
        """The number and the words that are told, if they are of their kinds."""
        self.assertIs(type(told), tuple)
        number, words = told
        self.assertIs(type(number), int)
        self.assertIs(type(words), list)
        self.assertEqual([type(word) for word in words], [int] * many)
        self.assertTrue(all(0 <= word < 2 ** width for word in words), (words, width))
        return number, words


class Worths(Told):
    def told(self, row, width, least=None, greatest=None):
        """Tells both worths; they must be these, where they are known."""
        both = []
        for function, expected in ((least_worth, least), (greatest_worth, greatest)):
            number, words = self.pair(self.asked(function, row, width), row[0], width)
            self.assertEqual(worth(row, width, words), number, (row, width))
            if expected is not None:
                self.assertEqual(number, expected, (row, width))
            both.append(number)
        return both

    def by_all_words(self, row, width):
        worths = [worth(row, width, words) for words in all_words(row[0], width)]
        self.told(row, width, min(worths), max(worths))
        return min(worths) > 0, max(worths) < 2 ** width - 1

    def test_all_words_of_small_widths(self):
        seen = {}
        for row in some_rows(201, 135) + lively_rows(202, 270) + [row for rows in GROUPS.values() for row in rows]:
            for width in widths_to_go_through(row[0]):
                look = self.by_all_words(row, width)
                seen[look] = seen.get(look, 0) + 1
        # Worths that do not come down to 0, do not come up to the greatest word, or neither.
        for look in itertools.product((True, False), repeat=2):
            self.assertGreater(seen[look], 10, look)

    def test_rows_by_hand(self):
        for width in (1, 2, 3, 30, 59, 60, 61, 100):
            top = 2 ** width - 1
            for many in (1, 2, 3):
                for out in range(many):
                    self.told((many, (), out), width, 0, top)
                self.told(spelled(many, "none"), width, 0, 0)
                self.told(spelled(many, "one"), width, 1, 1)
                self.told(spelled(many, "all"), width, top, top)
                self.told(spelled(many, "not 0"), width, 0, top)
                self.told(spelled(many, "neg 0"), width, 0, top)
                self.told(spelled(many, "twice 0"), width, 0, top - 1)
                self.told(spelled(many, "one", f"or 0 {many}"), width, 1, top)
                self.told(spelled(many, "one", f"and 0 {many}"), width, 0, 1)
                two = spelled(many, "one", f"twice {many}", f"not {many + 1}", f"and 0 {many + 2}")
                self.told(two, width, 0, top - 2 if width > 1 else top)
                self.told(spelled(many, "twice 0", f"not {many}"), width, 1, top)
            self.told(spelled(2, "add 0 1"), width, 0, top)
            self.told(spelled(2, "and 0 1"), width, 0, top)
            # The lowest bit that is 1, and all below it.
            self.told(spelled(1, "neg 0", "and 0 1"), width, 0, 2 ** (width - 1))
            self.told(spelled(1, "neg 0", "or 0 1"), width, 0, top)
            self.told(spelled(1, "not 0", "twice 1", "xor 0 2"), width, 0, top)

    def test_a_word_doubled_many_times(self):
        for times in range(9):
            for width in (1, 2, 7, 8, 9, 60):
                for many in (1, 2, 3):
                    self.told(doubled(many, times), width, 0, (2 ** width - 1) >> times << times)

    def test_the_greatest_and_least_of_all_words_tried_at_great_widths(self):
        rand = chance(203)
        for row in lively_rows(204, 108):
            for width in (17, 60, 61):
                least, greatest = self.told(row, width)
                tried = words_to_try(width)
                for _ in range(20):
                    number = worth(row, width, [rand.choice(tried) for _ in range(row[0])])
                    self.assertTrue(least <= number <= greatest, (row, width))

    def test_not_of_the_worth_is_the_other_way_about(self):
        for row in lively_rows(205, 160):
            if len(row[1]) < 8:
                other = (row[0], row[1] + (("not", row[2]),), row[0] + len(row[1]))
                for width in (1, 5, 60):
                    top = 2 ** width - 1
                    least, greatest = self.told(row, width)
                    self.told(other, width, top - greatest, top - least)

    def test_told_twice_with_the_first_one_changed_in_between(self):
        for row in some_rows(206, 60):
            for function in (greatest_worth, least_worth):
                first = function(row, 9)
                first[1].clear()
                second = function(row, 9)
                self.assertIsNot(first[1], second[1])
                self.assertEqual(first[0], second[0])
                self.assertEqual(worth(row, 9, second[1]), second[0])
                second[1].append("more")
                self.told(row, 9)


class Ahead(Told):
    def told(self, row, other, width, expected=None):
        amount, words = self.pair(self.asked(greatest_ahead, row, other, width), row[0], width)
        self.assertEqual(worth(row, width, words) - worth(other, width, words), amount, (row, other, width))
        if expected is not None:
            self.assertEqual(amount, expected, (row, other, width))
        return amount

    def by_all_words(self, row, other, width):
        amounts = [worth(row, width, words) - worth(other, width, words) for words in all_words(row[0], width)]
        return self.told(row, other, width, max(amounts))

    def test_all_words_of_small_widths(self):
        seen = {"below": 0, "even": 0, "above": 0}
        for row, other in some_pairs(211, 420):
            for width in widths_to_go_through(row[0]):
                amount = self.by_all_words(row, other, width)
                seen["below" if amount < 0 else "above" if amount else "even"] += 1
        for word in ("none", "one", "all"):
            for row in some_rows(212, 54):
                for width in widths_to_go_through(row[0]):
                    amount = self.by_all_words(spelled(row[0], word), row, width)
                    seen["below" if amount < 0 else "above" if amount else "even"] += 1
                    self.by_all_words(row, spelled(row[0], word), width)
        self.assertGreater(min(seen.values()), 40)

    def test_a_row_ahead_of_itself(self):
        for row in some_rows(213, 81) + lively_rows(214, 54):
            for width in (1, 2, 60):
                self.told(row, row, width, 0)

    def test_alike_rows(self):
        rand = chance(215)
        for row in lively_rows(216, 81):
            other = put_alike(rand, row)
            for width in (1, 7, 60, 61):
                self.told(row, other, width, 0)
                self.told(other, row, width, 0)
        for rows in GROUPS.values():
            for row, other in itertools.product(rows, rows):
                self.told(row, other, 60, 0)

    def test_amounts_by_hand(self):
        for width in (1, 2, 5, 59, 60, 61, 90):
            top = 2 ** width - 1
            for many in (1, 2, 3):
                none, one, every = spelled(many, "none"), spelled(many, "one"), spelled(many, "all")
                self.told(none, one, width, -1)
                self.told(one, none, width, 1)
                self.told(none, every, width, -top)
                self.told(every, none, width, top)
                self.told(one, every, width, 1 - top)
                self.told((many, (), 0), none, width, top)
                self.told(none, (many, (), 0), width, 0)
                self.told((many, (), 0), spelled(many, "not 0"), width, top)
                self.told((many, (), 0), spelled(many, "one", f"or 0 {many}"), width, 0)
                self.told(spelled(many, "one", f"or 0 {many}"), (many, (), 0), width, 1)
                # x and one less: only nothing has no lesser word ahead of it.
                self.told((many, (), 0), spelled(many, "one", f"sub 0 {many}"), width, 1)
                self.told(spelled(many, "one", f"sub 0 {many}"), (many, (), 0), width, top)
            self.told((2, (), 0), (2, (), 1), width, top)
            self.told(spelled(2, "or 0 1"), spelled(2, "and 0 1"), width, top)
            self.told(spelled(2, "and 0 1"), spelled(2, "or 0 1"), width, 0)

    def test_never_greater_just_where_the_amount_is_nothing_or_less(self):
        for row, other in some_pairs(217, 300):
            told = at_most(row, other)
            for width in range(1, 9):
                if told[0] == "most" or width < told[1]:
                    self.assertLessEqual(self.told(row, other, width), 0)
                elif width == told[1]:
                    self.assertGreater(self.told(row, other, width), 0)
            self.told(row, other, 60)

    def test_against_the_greatest_and_the_least_worth(self):
        for row in lively_rows(218, 81):
            for width in (1, 6, 60):
                self.told(row, spelled(row[0], "none"), width, greatest_worth(row, width)[0])
                self.told(spelled(row[0], "none"), row, width, -least_worth(row, width)[0])
                self.told(spelled(row[0], "all"), row, width, 2 ** width - 1 - least_worth(row, width)[0])

    def test_no_words_tried_are_further_apart_at_great_widths(self):
        rand = chance(219)
        for row, other in some_pairs(220, 150):
            for width in (23, 60, 61):
                amount = self.told(row, other, width)
                tried = words_to_try(width)
                for _ in range(15):
                    words = [rand.choice(tried) for _ in range(row[0])]
                    self.assertLessEqual(worth(row, width, words) - worth(other, width, words), amount)

    def test_rows_that_part_are_ahead_one_way_about(self):
        for row, other in some_pairs(221, 200):
            told = alike(row, other)
            if told[0] == "apart":
                ways = [self.told(row, other, told[1]), self.told(other, row, told[1])]
                self.assertGreater(max(ways), 0)

    def test_told_twice_with_the_first_one_changed_in_between(self):
        for row, other in some_pairs(222, 60):
            first = greatest_ahead(row, other, 9)
            first[1].clear()
            second = greatest_ahead(row, other, 9)
            self.assertIsNot(first[1], second[1])
            self.assertEqual(first[0], second[0])
            second[1].append("more")
            self.told(row, other, 9, first[0])

    def test_unlike_numbers_of_inputs(self):
        rand = chance(223)
        for many, others_many in itertools.permutations((1, 2, 3), 2):
            for width in (1, 2, 60, 61):
                self.refused(NoPair, greatest_ahead, (many, (), 0), (others_many, (), 0), width)
                self.refused(NoPair, greatest_ahead, spelled(many, "none"), spelled(others_many, "all"), width)
                for _ in range(10):
                    self.refused(NoPair, greatest_ahead, some_row(rand, many), some_row(rand, others_many), width)


if __name__ == "__main__":
    unittest.main()
