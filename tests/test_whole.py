"""What holds over the whole program: points 1 to 3."""

import itertools
import unittest

from anywide.alike import alike, is_closed
from anywide.atmost import at_most, is_never_greater
from anywide.book import Book
from anywide.carries import carries
from anywide.counts import how_many, how_often
from anywide.desk import Desk
from anywide.extremes import greatest_ahead, greatest_worth, least_worth
from anywide.joining import put_together
from anywide.machines import least_machine, parting, told_by
from anywide.mending import fitting, is_chain, mended
from anywide.rows import values, worth
from anywide.texts import read_row, show_row
from anywide.turning import gone_back, is_turning, turned
from refusals import Asked
from samples import GROUPS, chance, lively_rows, put_alike, some_pairs, some_rows, spelled


def alike_rows():
    rand = chance(231)
    pairs = [(row, put_alike(rand, row)) for row in some_rows(232, 81) + lively_rows(233, 108)]
    pairs += [(row, mended(row)[-1][2]) for row in lively_rows(234, 81) if mended(row)]
    for rows in GROUPS.values():
        pairs += list(zip(rows, rows[1:]))
    return pairs


def answers(row):
    """What is told of one row."""
    told = [carries(row), fitting(row), mended(row), least_machine(row), show_row(row), greatest_worth(row, 7)[0],
            least_worth(row, 7)[0], values(row, 7, [77] * row[0]), how_many(row, 7, 77)]
    return told + [turned(row), gone_back(row, 7, 77)] if row[0] == 1 else told


class Whole(Asked):
    def test_alike_rows(self):
        for row, other in alike_rows():
            self.assertEqual(alike(row, other)[0], "alike")
            self.assertEqual(least_machine(row), least_machine(other))
            for width in (1, 2, 8, 60):
                self.assertEqual(how_often(row, other, width), 2 ** (width * row[0]))
                self.assertEqual(how_many(row, width, 1), how_many(other, width, 1))
                self.assertEqual(greatest_worth(row, width)[0], greatest_worth(other, width)[0])
                self.assertEqual(least_worth(row, width)[0], least_worth(other, width)[0])
                for one, another in itertools.permutations((row, other)):
                    self.assertEqual(greatest_ahead(one, another, width)[0], 0)
            for one, another in itertools.permutations((row, other)):
                self.assertEqual(at_most(one, another)[0], "most")
            if row[0] == 1:
                self.assertEqual(turned(row)[:2] if turned(row)[0] == "meet" else "turned",
                                 turned(other)[:2] if turned(other)[0] == "meet" else "turned")

    def test_rows_that_part(self):
        parted = 0
        for row, other in some_pairs(235, 200):
            told = alike(row, other)
            if told[0] == "apart":
                parted += 1
                word, width, words = told
                self.assertNotEqual(least_machine(row), least_machine(other))
                self.assertLess(how_often(row, other, width), 2 ** (width * row[0]))
                self.assertIn("greater", (at_most(row, other)[0], at_most(other, row)[0]))
                machines = [least_machine(row), least_machine(other)]
                self.assertNotEqual(*[told_by(machine, width, words) for machine in machines])
                if width > 1:
                    self.assertEqual(how_often(row, other, width - 1), 2 ** ((width - 1) * row[0]))
        self.assertGreater(parted, 60)

    def test_a_book_knows_alike_rows_whatever_came_and_went(self):
        rand = chance(236)
        pairs = alike_rows()
        book = Book()
        for row, other in rand.sample(pairs, 60):
            book.tell("a", row)
            book.tell("c", spelled(row[0], "none"))
            book.tell("b", other)
            self.assertTrue(any({"a", "b"} <= set(kind) for kind in book.kinds()))
            book.forget("c")
            self.assertEqual(book.kinds(), [["a", "b"]])

    def test_put_together_alike_rows_stay_alike(self):
        rand = chance(237)
        made = 0
        for row, other in alike_rows():
            part = rand.choice([(1, (), 0), spelled(2, "xor 0 1"), spelled(1, "neg 0")])
            rows = [part] * row[0]
            if max(len(row[1]), len(other[1])) + len(part[1]) * row[0] <= 8:
                made += 1
                one, another = put_together(row, rows), put_together(other, rows)
                self.assertEqual(alike(one, another)[0], "alike")
                self.assertEqual(least_machine(one), least_machine(another))
        self.assertGreater(made, 60)

    def test_answers_of_one_row_whatever_other_rows_were_asked_in_between(self):
        rows = some_rows(238, 54) + lively_rows(239, 54) + [row for group in GROUPS.values() for row in group]
        first = [answers(row) for row in rows]
        rand = chance(240)
        for at in rand.sample(range(len(rows)), len(rows)):
            self.assertEqual(answers(rows[at]), first[at])
        for (row, told) in zip(rows, first):
            for part in told:
                if isinstance(part, list):
                    part.clear()
        for at in rand.sample(range(len(rows)), len(rows)):
            again = answers(rows[at])
            self.assertTrue(again[0] and again[3] and again[7])
            self.assertEqual(read_row(again[4]), rows[at])

    def test_closed_lists_are_told_again_for_the_same_rows(self):
        pairs = some_pairs(241, 60) + alike_rows()[:40]
        for _ in range(2):
            for row, other in pairs:
                told = alike(row, other)
                if told[0] == "alike":
                    self.assertIs(is_closed(row, other, told[1]), True)
                told = at_most(row, other)
                if told[0] == "most":
                    self.assertIs(is_never_greater(row, other, told[1]), True)
                if row[0] == 1 and turned(row)[0] == "turned":
                    self.assertIs(is_turning(row, turned(row)[1]), True)
                self.assertIs(is_chain(row, mended(row)), True)

    def test_lists_told_at_once_are_not_one(self):
        for row in lively_rows(242, 54):
            machine = least_machine(row)
            self.assertEqual(len({id(state) for state in machine}), len(machine))
            self.assertIsNot(least_machine(row)[0], machine[0])
            told = parting(machine, 0, len(machine) - 1)
            self.assertTrue(told is None or told is not parting(machine, 0, len(machine) - 1))

    def test_a_desk_answers_as_the_functions_do(self):
        for row, other in some_pairs(243, 60):
            desk = Desk()
            desk.say(f"tell row {show_row(row)}")
            desk.say(f"tell other {show_row(other)}")
            told = alike(row, other)
            self.assertEqual(desk.say("alike row other"), " ".join(map(str, told[:2])) if told[0] == "apart" else "alike")
            told = at_most(row, other)
            self.assertEqual(desk.say("most row other"), " ".join(map(str, told[:2])) if told[0] == "greater" else "most")
            self.assertEqual(desk.say("agree row other 60"), str(how_often(row, other, 60)))
            self.assertEqual(desk.say("states row"), str(len(least_machine(row))))
            words = [201, 77, 255][:row[0]]
            text = " ".join(map(str, words))
            self.assertEqual(desk.say(f"worth row 8 {text}"), str(worth(row, 8, words)))


if __name__ == "__main__":
    unittest.main()
