"""Values, worths and costs: point 5, and the sentences of points 2 and 7 that speak of them."""

import copy
import itertools
import unittest

from anywide.rows import cost, values, worth
from samples import PLACES, WIDTHS, bits_from_below, chance, some_rows, words_to_try


def bit_by_bit(width, one, other, truths):
    """The word whose bit is 1 where truths has the pair of bits."""
    pairs = zip(bits_from_below(one, width), bits_from_below(other, width))
    return sum(2 ** at for at, pair in enumerate(pairs) if pair in truths)


def expected_value(word, width, one, other):
    """Point 5 once more, without taking anything modulo what is not beyond it."""
    size = 2 ** width
    if word in ("none", "one", "all"):
        return {"none": 0, "one": 1, "all": size - 1}[word]
    if word == "not":
        return bit_by_bit(width, one, one, {(0, 0)})
    if word == "neg":
        return size - one if one else 0
    if word == "twice":
        return 2 * one if 2 * one < size else 2 * one - size
    if word == "and":
        return bit_by_bit(width, one, other, {(1, 1)})
    if word == "or":
        return bit_by_bit(width, one, other, {(0, 1), (1, 0), (1, 1)})
    if word == "xor":
        return bit_by_bit(width, one, other, {(0, 1), (1, 0)})
    if word == "add":
        return one + other if one + other < size else one + other - size
    return one - other if one >= other else one - other + size


def expected_values(row, width, words):
    told = list(words)
    for word, *numbers in row[1]:
        one, other = ([told[number] for number in numbers] + [None, None])[:2]
        told.append(expected_value(word, width, one, other))
    return told


class Values(unittest.TestCase):
    def told(self, row, width, words, expected):
        before = copy.deepcopy((row, words))
        result = values(row, width, words)
        self.assertIs(type(result), list)
        self.assertEqual(result, expected, (row, width, words))
        self.assertEqual({type(value) for value in result}, {int})
        self.assertTrue(all(0 <= value < 2 ** width for value in result))
        single = worth(row, width, words)
        self.assertIs(type(single), int)
        self.assertEqual(single, expected[row[2]], (row, width, words))
        self.assertEqual((row, words), before)

    def test_a_row_by_hand(self):
        row = (2, (("add", 0, 1), ("not", 2), ("twice", 3), ("sub", 0, 4), ("neg", 5), ("one",)), 6)
        self.told(row, 4, [9, 12], [9, 12, 5, 10, 4, 5, 11, 1])
        self.told(row, 8, [9, 12], [9, 12, 21, 234, 212, 53, 203, 1])
        row = (3, (("and", 0, 1), ("or", 1, 2), ("xor", 3, 4), ("all",), ("none",), ("sub", 7, 5)), 5)
        self.told(row, 4, [12, 10, 1], [12, 10, 1, 8, 11, 3, 15, 0, 13])

    def test_the_width_of_one(self):
        row = (1, (("none",), ("one",), ("all",), ("not", 0), ("neg", 0), ("twice", 0), ("add", 0, 2), ("sub", 1, 0)), 0)
        self.told(row, 1, [0], [0, 0, 1, 1, 1, 0, 0, 1, 0])
        self.told(row, 1, [1], [1, 0, 1, 1, 0, 1, 0, 0, 1])

    def test_the_width_of_sixty(self):
        top = 1152921504606846975
        row = (1, (("all",), ("one",), ("add", 1, 2), ("neg", 2), ("twice", 1), ("not", 2), ("sub", 3, 0)), 7)
        self.told(row, 60, [1], [1, top, 1, 0, top, top - 1, top - 1, top])

    def test_a_width_beyond_sixty(self):
        row = (1, (("all",), ("add", 0, 0), ("neg", 0)), 1)
        self.told(row, 61, [2 ** 60], [2 ** 60, 2 ** 61 - 1, 0, 2 ** 60])
        self.told(row, 200, [2 ** 199 + 1], [2 ** 199 + 1, 2 ** 200 - 1, 2, 2 ** 199 - 1])

    def test_each_deed_at_each_width(self):
        for width in WIDTHS:
            words = words_to_try(width)
            for word, places in PLACES.items():
                for one, other in itertools.product(words, words):
                    numbers = (0, 1)[:places]
                    expected = expected_value(word, width, one, other)
                    self.told((2, ((word, *numbers),), 2), width, [one, other], [one, other, expected])

    def test_each_deed_of_one_value_twice_over_and_turned_about(self):
        for width in (1, 2, 7, 60, 77):
            for one, other in itertools.product(words_to_try(width), repeat=2):
                for word in ("and", "or", "xor", "add", "sub"):
                    row = (2, ((word, 1, 0), (word, 0, 0), (word, 1, 1)), 2)
                    self.told(row, width, [one, other], expected_values(row, width, [one, other]))

    def test_all_words_of_small_widths(self):
        row = (2, tuple((word, *(1, 0)[:places]) for word, places in PLACES.items())[:8], 9)
        rest = (2, (("or", 0, 1), ("xor", 2, 0), ("add", 3, 1), ("sub", 1, 4), ("sub", 5, 2)), 6)
        for width in (1, 2, 3, 4):
            for words in itertools.product(range(2 ** width), repeat=2):
                self.told(row, width, list(words), expected_values(row, width, list(words)))
                self.told(rest, width, list(words), expected_values(rest, width, list(words)))

    def test_rows_of_all_sizes(self):
        rand = chance(5)
        for row in some_rows(6, 1350):
            width = rand.choice(WIDTHS)
            words = [rand.choice(words_to_try(width, rand.random())) for _ in range(row[0])]
            self.told(row, width, words, expected_values(row, width, words))

    def test_a_row_without_deeds(self):
        self.told((3, (), 1), 5, [31, 0, 16], [31, 0, 16])

    def test_rows_somewhat_beyond_the_limits_are_not_refused(self):
        row = (4, (("add", 0, 3),) + tuple(("add", at, at) for at in range(4, 13)), 13)
        self.told(row, 12, [3, 0, 0, 4], [3, 0, 0, 4] + [7 * 2 ** at % 4096 for at in range(10)])

    def test_each_out(self):
        words = [5, 250]
        deeds = (("add", 0, 1), ("xor", 0, 2), ("twice", 3))
        for out, expected in enumerate([5, 250, 255, 250, 244]):
            self.assertEqual(worth((2, deeds, out), 8, words), expected)

    def test_the_list_is_a_new_one_each_time(self):
        for row in ((2, (("add", 0, 1),), 2), (2, (), 0)):
            words = [3, 4]
            one = values(row, 8, words)
            other = values(row, 8, words)
            self.assertEqual(one, other)
            self.assertIsNot(one, other)
            self.assertIsNot(one, words)
            one.clear()
            self.assertEqual(values(row, 8, words), other)
            self.assertEqual(words, [3, 4])

    def test_words_are_not_kept(self):
        words = [3, 4]
        told = values((2, (("add", 0, 1),), 2), 8, words)
        words[0] = 99
        self.assertEqual(told, [3, 4, 7])
        self.assertEqual(values((2, (("add", 0, 1),), 2), 8, words), [99, 4, 103])


class Cost(unittest.TestCase):
    def setUp(self):
        self.costs = dict(zip(sorted(PLACES), (1, 9, 2, 8, 3, 7, 4, 6, 5, 1, 9)))

    def told(self, row, costs, expected):
        before = copy.deepcopy((row, costs))
        result = cost(row, costs)
        self.assertIs(type(result), int)
        self.assertEqual(result, expected, row)
        self.assertEqual((row, costs), before)
        self.assertEqual(list(costs), list(before[1]))

    def test_a_row_by_hand(self):
        costs = {"none": 1, "one": 2, "all": 3, "not": 4, "neg": 5, "twice": 6, "and": 7, "or": 8, "xor": 9,
                 "add": 9, "sub": 1}
        self.told((2, (("add", 0, 1), ("add", 0, 1), ("none",), ("not", 2)), 0), costs, 9 + 9 + 1 + 4)
        self.told((1, (("one",), ("all",), ("neg", 0), ("twice", 0), ("sub", 0, 0)), 5), costs, 2 + 3 + 5 + 6 + 1)

    def test_a_row_without_deeds_costs_nothing(self):
        for many in (1, 2, 3):
            self.told((many, (), 0), self.costs, 0)

    def test_each_deed_counts_as_often_as_it_stands(self):
        for word, places in PLACES.items():
            for price in (1, 5, 9):
                for length in range(9):
                    # Of these deeds nothing has the value but, at times, out.
                    deeds = ((word,) + (0,) * places,) * length
                    costs = {**dict.fromkeys(PLACES, 3), word: price}
                    self.told((1, deeds, 0), costs, price * length)
                    self.told((1, deeds, length), costs, price * length)

    def test_rows_of_all_sizes(self):
        rand = chance(7)
        for row in some_rows(8, 270):
            costs = {word: rand.randint(1, 9) for word in rand.sample(sorted(PLACES), len(PLACES))}
            expected = 0
            for word in PLACES:
                expected += costs[word] * [deed[0] for deed in row[1]].count(word)
            self.told(row, costs, expected)


if __name__ == "__main__":
    unittest.main()
