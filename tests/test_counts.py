"""For how many choices of words rows agree, or a worth is a word: point 8."""

import itertools
import unittest

from anywide.alike import alike
from anywide.counts import how_many, how_often
from anywide.errors import NoPair
from anywide.rows import worth
from refusals import Asked
from samples import GROUPS, all_words, chance, doubled, lively_rows, some_pairs, some_row, some_rows, spelled

WIDTHS_BY_NAME = (1, 2, 59, 60, 61, 64, 100)
# For so many inputs, widths at which all choices can be gone through.
SMALL = {1: (1, 2, 3, 5), 2: (1, 2, 3), 3: (1, 2)}


class HowOften(Asked):
    def told(self, row, other, width, expected):
        for one, another in ((row, other), (other, row)):
            result = self.asked(how_often, one, another, width)
            self.assertIs(type(result), int)
            self.assertEqual(result, expected, (one, another, width))

    def test_all_choices_of_words_of_small_widths(self):
        numbers = set()
        for row, other in some_pairs(91, 700):
            for width in SMALL[row[0]]:
                choices = all_words(row[0], width)
                expected = sum(worth(row, width, words) == worth(other, width, words) for words in choices)
                self.told(row, other, width, expected)
                numbers.add((row[0], width, expected))
        # Not only all choices and none of them.
        self.assertGreater(len(numbers), 60)

    def test_greater_small_widths(self):
        for row, other in some_pairs(92, 30):
            width = {1: 9, 2: 5, 3: 3}[row[0]]
            choices = all_words(row[0], width)
            expected = sum(worth(row, width, words) == worth(other, width, words) for words in choices)
            self.told(row, other, width, expected)

    def test_a_row_with_itself_and_with_an_alike_one(self):
        for width in WIDTHS_BY_NAME:
            for row in some_rows(93, 54):
                self.told(row, row, width, 2 ** (width * row[0]))
            for rows in GROUPS.values():
                self.told(rows[0], rows[-1], width, 4 ** width)

    def test_counts_that_are_known(self):
        for width in WIDTHS_BY_NAME:
            every = 2 ** width
            self.told((1, (), 0), spelled(1, "not 0"), width, 0)
            self.told((1, (), 0), spelled(1, "none"), width, 1)
            self.told((2, (), 0), (2, (), 1), width, every)
            self.told((3, (), 0), (3, (), 2), width, every ** 2)
            self.told((2, (), 1), spelled(2, "all"), width, every)
            self.told((3, (), 1), spelled(3, "one"), width, every ** 2)
            # A word and its lack are one for nought and for the half of all.
            self.told((1, (), 0), spelled(1, "neg 0"), width, 2)
            self.told(spelled(2, "twice 1"), spelled(2, "none"), width, 2 * every)
            # One where no bit is 1 in both; but what is carried out of the highest one is lost.
            self.told(spelled(2, "add 0 1"), spelled(2, "or 0 1"), width, 3 ** width)
            self.told(spelled(2, "add 0 1"), spelled(2, "xor 0 1"), width, 4 * 3 ** (width - 1))
            self.told(spelled(2, "sub 0 1"), spelled(2, "xor 0 1"), width, 4 * 3 ** (width - 1))
            self.told(spelled(3, "and 0 1", "and 3 2"), spelled(3, "none"), width, 7 ** width)
            self.told(spelled(3, "or 0 1", "or 3 2"), spelled(3, "all"), width, 7 ** width)
            self.told(spelled(3, "add 0 1"), (3, (), 2), width, every ** 2)
            self.told(spelled(1, "one"), spelled(1, "all"), width, 2 if width == 1 else 0)

    def test_a_value_doubled_many_times(self):
        for width in WIDTHS_BY_NAME:
            for times in range(9):
                for many in (1, 2, 3):
                    free = 2 ** (min(times, width) + (many - 1) * width)
                    self.told(doubled(many, times), spelled(many, "none"), width, free)

    def test_many_pairs_of_states(self):
        row = doubled(2, 7)
        other = (2, (("twice", 0),) + row[1][1:], row[2])
        for width in (5, 60, 61):
            self.told(row, other, width, 2 ** (2 * width - max(width - 7, 0)))

    def test_a_width_that_alike_tells(self):
        deeds = (("one",),) + tuple(("twice", at) for at in range(1, 71))
        row, other = (1, deeds, 71), spelled(1, "none")
        width = alike(row, other)[1]
        self.assertGreater(width, 60)
        self.told(row, other, width - 1, 2 ** (width - 1))
        self.told(row, other, width, 0)
        for row, other in some_pairs(94, 200):
            told = alike(row, other)
            if told[0] == "apart":
                self.assertLess(how_often(row, other, told[1]), 2 ** (told[1] * row[0]))
                if told[1] > 1:
                    self.told(row, other, told[1] - 1, 2 ** ((told[1] - 1) * row[0]))

    def test_unlike_numbers_of_inputs(self):
        rand = chance(95)
        for many, others_many in itertools.permutations((1, 2, 3), 2):
            for width in (1, 2, 60, 61):
                self.refused(NoPair, how_often, (many, (), 0), (others_many, (), 0), width)
                self.refused(NoPair, how_often, some_row(rand, many), some_row(rand, others_many), width)
                self.refused(NoPair, how_often, spelled(many, "none"), spelled(others_many, "none"), width)


class HowMany(Asked):
    def told(self, row, width, word, expected):
        result = self.asked(how_many, row, width, word)
        self.assertIs(type(result), int)
        self.assertEqual(result, expected, (row, width, word))

    def test_all_choices_of_words_of_small_widths(self):
        numbers = set()
        for row in some_rows(96, 270) + lively_rows(90, 270):
            for width in SMALL[row[0]]:
                worths = [worth(row, width, words) for words in all_words(row[0], width)]
                for word in range(2 ** width):
                    self.told(row, width, word, worths.count(word))
                    numbers.add((row[0], width, worths.count(word)))
        self.assertGreater(len(numbers), 60)

    def test_counts_that_are_known(self):
        rand = chance(97)
        for width in WIDTHS_BY_NAME:
            top = 2 ** width - 1
            for word in {0, 1, top, 2 ** (width - 1), rand.randint(0, top)}:
                ones = format(word, "b").count("1")
                self.told((1, (), 0), width, word, 1)
                self.told((2, (), 0), width, word, top + 1)
                self.told((3, (), 2), width, word, (top + 1) ** 2)
                self.told(spelled(2, "add 0 1"), width, word, top + 1)
                self.told(spelled(3, "sub 0 1", "xor 3 2"), width, word, (top + 1) ** 2)
                self.told(spelled(2, "and 0 1"), width, word, 3 ** (width - ones))
                self.told(spelled(2, "or 0 1"), width, word, 3 ** ones)
                self.told(spelled(3, "and 0 1", "and 3 2"), width, word, 7 ** (width - ones))
                self.told(spelled(1, "twice 0"), width, word, 0 if word % 2 else 2)
                self.told(spelled(2, "none"), width, word, 0 if word else (top + 1) ** 2)
                self.told(spelled(2, "all"), width, word, (top + 1) ** 2 if word == top else 0)
            # How many words have this bit as the lowest one that is 1.
            for place in range(width):
                self.told(spelled(1, "neg 0", "and 0 1"), width, 2 ** place, 2 ** (width - 1 - place))

    def test_the_sum_over_all_words_is_all_choices(self):
        for row in lively_rows(98, 81):
            self.assertEqual(sum(how_many(row, 6, word) for word in range(64)), 64 ** row[0])

    def test_how_often_against_a_word_that_a_row_tells(self):
        for row in lively_rows(99, 135):
            for width in (1, 8, 60, 64):
                for word, other in ((0, "none"), (1, "one"), (2 ** width - 1, "all")):
                    self.told(row, width, word, how_often(row, spelled(row[0], other), width))

    def test_a_number_that_is_no_word_of_the_width_is_no_worth(self):
        for row in some_rows(100, 27):
            for width in (1, 5, 60, 61):
                for number in (2 ** width, 2 ** width + 1, 2 ** (width + 3), -1, -2 ** width):
                    self.told(row, width, number, 0)


if __name__ == "__main__":
    unittest.main()
