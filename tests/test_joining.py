"""Rows put together: point 13."""

import itertools
import unittest

from anywide.errors import NoPair, TooMany
from anywide.joining import put_together
from anywide.rows import is_row, worth
from refusals import Asked
from samples import all_words, chance, doubled, lively_row, some_row, spelled, words_to_try


def some_parts(rand, length=None, many=None):
    """A row, a list of rows for its inputs, and how many deeds they have in all: at most eight, or just so many."""
    row_many = rand.randint(1, 3)
    many = many or rand.randint(1, 3)
    length = rand.randint(0, 8) if length is None else length
    cuts = sorted(rand.randint(0, length) for _ in range(row_many))
    lengths = [high - low for low, high in zip([0] + cuts, cuts + [length])]
    draw = rand.choice((some_row, lively_row))
    row = draw(rand, row_many, lengths[0])
    return row, [draw(rand, many, part) for part in lengths[1:]]


class PutTogether(Asked):
    def told(self, row, rows, expected):
        result = self.asked(put_together, row, rows)
        self.assertEqual(repr(result), repr(expected), (row, rows))

    def by_worths(self, row, rows, width, choices):
        made = put_together(row, rows)
        for words in choices:
            between = [worth(part, width, words) for part in rows]
            self.assertEqual(worth(made, width, words), worth(row, width, between), (row, rows, width, words))

    def test_rows_of_one_input(self):
        self.told(spelled(1, "not 0"), [spelled(1, "neg 0")], spelled(1, "neg 0", "not 1"))
        self.told(spelled(1, "neg 0"), [spelled(1, "not 0")], spelled(1, "not 0", "neg 1"))
        self.told(spelled(1, "twice 0", "add 0 1"), [spelled(1, "not 0", "xor 0 1")],
                  spelled(1, "not 0", "xor 0 1", "twice 2", "add 2 3"))
        # The out of the row put in need not be its last value, nor that of the other row.
        self.told((1, (("twice", 0), ("one",), ("sub", 1, 0)), 1), [(1, (("all",), ("neg", 0)), 1)],
                  (1, (("all",), ("neg", 0), ("twice", 1), ("one",), ("sub", 3, 1)), 3))

    def test_rows_of_two_and_three_inputs(self):
        self.told(spelled(2, "sub 0 1"), [spelled(2, "and 0 1"), spelled(2, "or 1 0", "not 2")],
                  spelled(2, "and 0 1", "or 1 0", "not 3", "sub 2 4"))
        self.told(spelled(2, "sub 1 0"), [spelled(1, "one", "add 0 1"), spelled(1, "twice 0", "neg 1")],
                  spelled(1, "one", "add 0 1", "twice 0", "neg 3", "sub 4 2"))
        self.told(spelled(3, "add 0 1", "sub 3 2"), [spelled(3, "xor 0 2"), spelled(3, "and 1 2", "not 3"), (3, (), 1)],
                  spelled(3, "xor 0 2", "and 1 2", "not 4", "add 3 5", "sub 6 1"))
        self.told(spelled(3, "or 2 1", "xor 0 3"), [spelled(1, "neg 0"), spelled(1, "neg 0", "twice 1"), spelled(1, "not 0")],
                  spelled(1, "neg 0", "neg 0", "twice 2", "not 0", "or 4 3", "xor 1 5"))

    def test_the_number_of_inputs_is_that_of_the_rows_put_in(self):
        for row_many, many in itertools.product((1, 2, 3), repeat=2):
            row = spelled(row_many, "not 0")
            self.told(row, [(many, (), many - 1)] * row_many, (many, (("not", many - 1),), many))

    def test_bare_inputs_put_in(self):
        row = spelled(2, "add 0 1", "sub 2 1")
        self.told(row, [(2, (), 0), (2, (), 1)], row)
        self.told(row, [(2, (), 1), (2, (), 0)], spelled(2, "add 1 0", "sub 2 0"))
        self.told(row, [(2, (), 0), (2, (), 0)], spelled(2, "add 0 0", "sub 2 0"))
        self.told(row, [(1, (), 0), (1, (), 0)], spelled(1, "add 0 0", "sub 1 0"))
        self.told(row, [(3, (), 2), (3, (), 1)], spelled(3, "add 2 1", "sub 3 1"))
        self.told(row, [(2, (), 1), spelled(2, "not 1")], spelled(2, "not 1", "add 1 2", "sub 3 2"))

    def test_a_row_put_into_a_bare_one(self):
        row = (2, (("add", 0, 1), ("neg", 2), ("all",)), 3)
        self.told((1, (), 0), [row], row)
        self.told((2, (), 0), [row, (2, (), 1)], row)
        self.told((2, (), 1), [row, (2, (), 1)], (2, row[1], 1))
        self.told((2, (), 1), [row, row], (2, row[1] + (("add", 0, 1), ("neg", 5), ("all",)), 6))
        self.told((3, (), 2), [(1, (), 0)] * 3, (1, (), 0))

    def test_the_same_row_for_all_inputs(self):
        part = spelled(2, "xor 0 1", "neg 2")
        rows = [part] * 3
        self.told(spelled(3, "add 0 1", "sub 3 2"), rows, spelled(
            2, "xor 0 1", "neg 2", "xor 0 1", "neg 4", "xor 0 1", "neg 6", "add 3 5", "sub 8 7"))
        row = spelled(1, "twice 0", "not 1")
        self.told(row, [row], spelled(1, "twice 0", "not 1", "twice 2", "not 3"))

    def test_a_new_row_is_told_for_the_same_list_changed(self):
        row, rows = spelled(2, "sub 0 1"), [spelled(1, "not 0"), (1, (), 0)]
        self.told(row, rows, spelled(1, "not 0", "sub 1 0"))
        rows.reverse()
        self.told(row, rows, spelled(1, "not 0", "sub 0 1"))
        rows.append((1, (), 0))
        self.refused(NoPair, put_together, row, rows)

    def test_just_eight_deeds(self):
        self.told(doubled(1, 4), [doubled(1, 4)], doubled(1, 8))
        self.told(doubled(1, 0), [doubled(1, 8)], doubled(1, 8))
        self.told(doubled(1, 8), [doubled(1, 0)], doubled(1, 8))
        self.told(doubled(1, 7), [doubled(3, 1)], doubled(3, 8))
        rand = chance(161)
        for _ in range(150):
            row, rows = some_parts(rand, 8)
            made = self.asked(put_together, row, rows)
            self.assertIs(is_row(made), True)
            self.assertEqual(len(made[1]), 8)

    def test_numbers_of_the_new_row(self):
        rand = chance(162)
        for _ in range(400):
            row, rows = some_parts(rand)
            made = self.asked(put_together, row, rows)
            self.assertIs(is_row(made), True)
            self.assertEqual(made[0], rows[0][0])
            words = [deed[0] for part in rows for deed in part[1]] + [deed[0] for deed in row[1]]
            self.assertEqual([deed[0] for deed in made[1]], words)

    def test_worths(self):
        rand = chance(163)
        for _ in range(300):
            row, rows = some_parts(rand)
            for width in (1, 2, 3):
                if width * rows[0][0] <= 6:
                    self.by_worths(row, rows, width, all_words(rows[0][0], width))
            for width in (5, 17, 32, 59, 60, 61):
                words = words_to_try(width)
                self.by_worths(row, rows, width, [[rand.choice(words) for _ in range(rows[0][0])] for _ in range(5)])

    def test_other_numbers_of_rows(self):
        for many in (1, 2, 3):
            for count in range(6):
                if count != many:
                    self.refused(NoPair, put_together, spelled(many, "not 0"), [(1, (), 0)] * count)
                    self.refused(NoPair, put_together, (many, (), 0), [spelled(2, "add 0 1")] * count)
            self.refused(NoPair, put_together, (many, (), 0), [])

    def test_unlike_numbers_of_inputs(self):
        for one, other in itertools.permutations((1, 2, 3), 2):
            self.refused(NoPair, put_together, spelled(2, "add 0 1"), [(one, (), 0), (other, (), 0)])
            for rows in set(itertools.permutations([(one, (), 0), (one, (), 0), (other, (), 0)])):
                self.refused(NoPair, put_together, spelled(3, "add 0 1"), list(rows))

    def test_no_pair_ahead_of_too_many(self):
        long = doubled(1, 8)
        self.refused(NoPair, put_together, long, [])
        self.refused(NoPair, put_together, long, [long, long])
        self.refused(NoPair, put_together, spelled(2, "add 0 1"), [long])
        self.refused(NoPair, put_together, spelled(2, "add 0 1"), [long, doubled(2, 8)])
        self.refused(NoPair, put_together, spelled(2, "add 0 1"), [doubled(3, 8), long])
        self.refused(NoPair, put_together, spelled(3, "add 0 1"), [long, long, doubled(2, 0)])
        self.refused(NoPair, put_together, spelled(3, "add 0 1"), [long, long, long, long])

    def test_more_than_eight_deeds(self):
        for count in range(1, 9):
            self.refused(TooMany, put_together, doubled(1, count), [doubled(1, 9 - count)])
            self.refused(TooMany, put_together, doubled(1, count), [doubled(3, 8)])
        self.refused(TooMany, put_together, doubled(1, 8), [doubled(1, 8)])
        self.refused(TooMany, put_together, (2, (), 0), [doubled(1, 8), doubled(1, 1)])
        self.refused(TooMany, put_together, (2, (), 1), [doubled(2, 1), doubled(2, 8)])
        self.refused(TooMany, put_together, (3, (), 1), [doubled(2, 3)] * 3)
        rand = chance(164)
        for length in (9, 10, 14):
            for _ in range(60):
                row, rows = some_parts(rand, length)
                if max(len(part[1]) for part in [row, *rows]) <= 8:
                    self.refused(TooMany, put_together, row, rows)


if __name__ == "__main__":
    unittest.main()
