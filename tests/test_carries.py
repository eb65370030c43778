"""Carries and the bits of values: point 6."""

import copy
import itertools
import unittest

from anywide.carries import bits_of, carries, first_carry, next_carry
from anywide.rows import values
from samples import PLACES, WIDTHS, bits_from_below, chance, some_rows, words_to_try
from tables import all_tuples, by_the_table, carries_by_the_table


class Told(unittest.TestCase):
    def bits_told(self, result, expected, about):
        self.assertIs(type(result), tuple)
        self.assertEqual({type(bit) for bit in result} - {int}, set())
        self.assertEqual(result, expected, about)


class FirstCarry(Told):
    def test_each_deed(self):
        for word, places in PLACES.items():
            for many in (1, 2, 3):
                row = (many, ((word,) + (0,) * places,), 0)
                self.bits_told(first_carry(row), (1 if word in ("neg", "one") else 0,), row)

    def test_rows_by_hand(self):
        self.bits_told(first_carry((1, (), 0)), (), "no deeds")
        row = (2, (("add", 0, 1), ("neg", 2), ("one",), ("all",), ("twice", 5), ("neg", 0), ("sub", 0, 1)), 3)
        self.bits_told(first_carry(row), (0, 1, 1, 0, 0, 1, 0), row)

    def test_rows_of_all_sizes(self):
        for row in some_rows(61, 270):
            before = copy.deepcopy(row)
            expected = tuple(int(deed[0] == "neg" or deed[0] == "one") for deed in row[1])
            self.bits_told(first_carry(row), expected, row)
            self.assertEqual(row, before)


class BitsAndNext(Told):
    def told(self, row, carry, bits):
        before = copy.deepcopy((row, carry, bits))
        told, after = by_the_table(row, carry, bits)
        about = (row, carry, bits)
        self.bits_told(bits_of(row, carry, bits), told, about)
        self.bits_told(next_carry(row, carry, bits), after, about)
        self.assertEqual((row, carry, bits), before)

    def test_each_deed_with_all_bits_and_carries(self):
        for many in (1, 2, 3):
            for word, places in PLACES.items():
                for numbers in itertools.product(range(many), repeat=places):
                    row = (many, ((word, *numbers),), many)
                    for bits in all_tuples(many):
                        for carry in ((0,), (1,)):
                            self.told(row, carry, bits)

    def test_a_row_by_hand(self):
        row = (2, (("add", 0, 1), ("sub", 2, 0), ("neg", 3), ("twice", 4), ("one",)), 5)
        self.bits_told(bits_of(row, (0, 0, 1, 0, 1), (1, 1)), (1, 1, 0, 1, 1, 0, 1), row)
        self.bits_told(next_carry(row, (0, 0, 1, 0, 1), (1, 1)), (1, 1, 0, 1, 0), row)
        self.bits_told(bits_of(row, (1, 1, 0, 1, 0), (0, 0)), (0, 0, 1, 0, 1, 1, 0), row)
        self.bits_told(next_carry(row, (1, 1, 0, 1, 0), (0, 0)), (0, 0, 0, 1, 0), row)

    def test_a_row_without_deeds(self):
        for many in (1, 2, 3):
            for bits in all_tuples(many):
                self.bits_told(bits_of((many, (), 0), (), bits), bits, bits)
                self.bits_told(next_carry((many, (), 0), (), bits), (), bits)

    def test_rows_of_all_sizes(self):
        rand = chance(62)
        for row in some_rows(63, 540):
            for bits in all_tuples(row[0]):
                carry = tuple(rand.randint(0, 1) for _ in row[1])
                self.told(row, carry, bits)
                self.told(row, first_carry(row), bits)


class BitsOfWords(Told):
    def walked(self, row, width, words):
        """The values, put together of the bits that bits_of tells from the first carry on."""
        columns = list(zip(*[bits_from_below(word, width) for word in words]))
        carry, rows_of_bits = first_carry(row), []
        for bits in columns:
            rows_of_bits.append(bits_of(row, carry, bits))
            carry = next_carry(row, carry, bits)
        return [sum(bit << at for at, bit in enumerate(column)) for column in zip(*rows_of_bits)]

    def test_bits_of_what_values_tells(self):
        rand = chance(64)
        for row in some_rows(65, 810):
            for _ in range(2):
                width = rand.choice(WIDTHS)
                words = [rand.choice(words_to_try(width, rand.random())) for _ in range(row[0])]
                self.assertEqual(self.walked(row, width, words), values(row, width, words), (row, width, words))

    def test_each_deed_with_all_words_of_small_widths(self):
        for word, places in PLACES.items():
            row = (2, ((word, *(0, 1)[:places]), (word, *(2, 0)[:places])), 3)
            for width in (1, 2, 3, 4):
                for words in itertools.product(range(2 ** width), repeat=2):
                    self.assertEqual(self.walked(row, width, words), values(row, width, list(words)))


class Carries(Told):
    def told(self, row, expected):
        before = copy.deepcopy(row)
        result = carries(row)
        self.assertIs(type(result), list)
        self.assertEqual(result, expected, row)
        self.assertEqual({type(carry) for carry in result}, {tuple})
        self.assertEqual({type(bit) for carry in result for bit in carry} - {int}, set())
        self.assertEqual(row, before)

    def test_each_deed(self):
        one = {"one": [(0,), (1,)], "neg": [(0,), (1,)], "twice": [(0,), (1,)], "add": [(0,), (1,)], "sub": [(0,), (1,)]}
        for word, places in PLACES.items():
            self.told((2, ((word, *(0, 1)[:places]),), 2), one.get(word, [(0,)]))

    def test_rows_by_hand(self):
        self.told((1, (), 0), [()])
        # Nothing less itself never borrows, and "neg" of nought carries for ever.
        self.told((1, (("sub", 0, 0),), 1), [(0,)])
        self.told((1, (("none",), ("neg", 1)), 2), [(0, 1)])
        self.told((1, (("all",), ("twice", 1)), 2), [(0, 0), (0, 1)])
        self.told((1, (("one",), ("neg", 1)), 2), [(0, 0), (1, 1)])
        self.told((1, (("twice", 0), ("twice", 1)), 2), [(0, 0), (0, 1), (1, 0), (1, 1)])
        self.told((1, (("add", 0, 0), ("twice", 0)), 2), [(0, 0), (1, 1)])

    def test_a_carry_that_comes_late_only(self):
        row = (1, (("one",), ("twice", 1), ("twice", 2), ("twice", 3)), 4)
        self.told(row, [(0, 0, 0, 0), (0, 0, 0, 1), (0, 0, 1, 0), (0, 1, 0, 0), (1, 0, 0, 0)])

    def test_carries_of_eight_bits_that_all_come(self):
        row = (1, tuple(("twice", at) for at in range(8)), 8)
        self.told(row, all_tuples(8))

    def test_rows_somewhat_beyond_the_limits_are_not_refused(self):
        self.told((4, (("and", 0, 3),) * 9 + (("twice", 3),), 0), [(0,) * 10, (0,) * 9 + (1,)])

    def test_rows_of_all_sizes(self):
        for row in some_rows(66, 540):
            self.told(row, carries_by_the_table(row))

    def test_the_list_is_a_new_one_each_time(self):
        row = (1, (("twice", 0),), 1)
        one, other = carries(row), carries(row)
        self.assertIsNot(one, other)
        one.clear()
        self.assertEqual(other, [(0,), (1,)])
        self.assertEqual(carries(row), [(0,), (1,)])


if __name__ == "__main__":
    unittest.main()
