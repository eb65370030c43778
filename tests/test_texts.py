"""Rows written as texts and read: point 15."""

import re
import unittest

from anywide.errors import NoText
from anywide.rows import is_row
from anywide.texts import read_row, show_row
from refusals import Asked
from samples import PLACES, chance, doubled, lively_rows, some_rows, spelled

NUMBER = "(?:0|[1-9][0-9]*)"
FORM = re.compile(f"in ({NUMBER})((?:; [a-z]+(?: {NUMBER})*)*); out ({NUMBER})")
# All signs that a text may have, and some that it may not.
SIGNS = [chr(number) for number in range(32, 127)] + ["\t", "\n", "\r", "\x0b", "\xa0", "\u0660", "\u00b2", "\uff11"]


def row_by_its_words(text):
    """The row that a text tells, or None; by a pattern and by looking at each number."""
    found = FORM.fullmatch(text)
    if found is None:
        return None
    many, out = int(found[1]), int(found[3])
    deeds = tuple((word, *map(int, numbers)) for word, *numbers in map(str.split, found[2].split("; ")[1:]))
    if not 1 <= many <= 3 or len(deeds) > 8 or not out < many + len(deeds):
        return None
    for at, (word, *numbers) in enumerate(deeds):
        if len(numbers) != PLACES.get(word) or not all(number < many + at for number in numbers):
            return None
    return (many, deeds, out)


class Texts(Asked):
    def told(self, row, text):
        self.assertEqual(self.asked(show_row, row), text)
        self.assertIs(type(show_row(row)), str)
        self.assertEqual(repr(self.asked(read_row, text)), repr(row))

    def by_its_words(self, text):
        row = row_by_its_words(text)
        if row is None:
            self.refused(NoText, read_row, text)
        else:
            self.told(row, text)
        return row is not None

    def test_each_deed(self):
        self.told((1, (("none",),), 1), "in 1; none; out 1")
        self.told((1, (("one",),), 1), "in 1; one; out 1")
        self.told((1, (("all",),), 1), "in 1; all; out 1")
        self.told((2, (("not", 1),), 2), "in 2; not 1; out 2")
        self.told((2, (("neg", 0),), 2), "in 2; neg 0; out 2")
        self.told((2, (("twice", 1),), 0), "in 2; twice 1; out 0")
        self.told((3, (("and", 0, 2),), 3), "in 3; and 0 2; out 3")
        self.told((3, (("or", 2, 1),), 3), "in 3; or 2 1; out 3")
        self.told((3, (("xor", 1, 1),), 1), "in 3; xor 1 1; out 1")
        self.told((3, (("add", 2, 0),), 3), "in 3; add 2 0; out 3")
        self.told((3, (("sub", 0, 1),), 3), "in 3; sub 0 1; out 3")

    def test_rows_of_no_deeds(self):
        for many in (1, 2, 3):
            for out in range(many):
                self.told((many, (), out), f"in {many}; out {out}")

    def test_rows_of_eight_deeds(self):
        self.told(doubled(1, 8), "in 1; " + "".join(f"twice {at}; " for at in range(8)) + "out 8")
        self.told(doubled(3, 8, "add"), "in 3; add 2 2; " + "".join(f"add {at} {at}; " for at in range(3, 10)) + "out 10")
        row = spelled(3, "not 0", "neg 1", "twice 2", "and 0 3", "or 4 1", "xor 5 2", "add 6 7", "sub 9 8")
        self.told(row, "in 3; not 0; neg 1; twice 2; and 0 3; or 4 1; xor 5 2; add 6 7; sub 9 8; out 10")

    def test_all_rows(self):
        seen = set()
        for row in some_rows(181, 540) + lively_rows(182, 270):
            text = show_row(row)
            self.told(row, text)
            self.assertEqual(repr(row_by_its_words(text)), repr(row))
            seen.add(text)
        self.assertGreater(len(seen), 600)

    def test_one_sign_exchanged_put_in_or_left_out(self):
        seen = {True: 0, False: 0}
        rand = chance(183)
        texts = ["in 1; out 0", "in 2; add 0 1; out 2", "in 3; none; xor 3 2; twice 4; out 5"]
        for row in some_rows(184, 27):
            texts.append(show_row(row))
        for text in texts:
            for at in range(len(text) + 1):
                for sign in SIGNS if text in texts[:3] else rand.sample(SIGNS, 8) + list(" 0;"):
                    seen[self.by_its_words(text[:at] + sign + text[at:])] += 1
                    if at < len(text):
                        seen[self.by_its_words(text[:at] + sign + text[at + 1:])] += 1
                seen[self.by_its_words(text[:at] + text[at + 1:])] += 1
        self.assertGreater(seen[True], 500)
        self.assertGreater(seen[False], 10000)

    def test_numbers(self):
        for text in (
            "in 01; out 0", "in 1; out 00", "in 1; out -0", "in 1; out +0", "in +1; out 0", "in 1; not 00; out 1",
            "in 2; not 01; out 2", "in 2; add 0 01; out 2", "in 2; add 00 1; out 2", "in 1; not -1; out 1",
            "in 1; not +0; out 1", "in 1; not 0_0; out 1", "in 1_; out 0", "in 1; out 0_", "in _1; out 0",
            "in 1.; out 0", "in 1.0; out 0", "in 1e0; out 0", "in 0x1; out 0", "in one; out 0", "in I; out 0",
            "in \u0661; out 0", "in \uff11; out 0", "in 1; out \u0660", "in \u00b9; out 0", "in 1; out None",
            "in True; out 0", "in 1; out False", "in 4; out 0", "in 0; out 0", "in 10; out 0", "in 1; out 1",
            "in 1; out 2", "in 1; not 1; out 1", "in 1; not 0; not 2; out 1", "in 1; not 0; out 2", "in 3; out 3",
            "in 2; add 0 2; out 2", "in 2; add 2 0; out 2", "in 1; not 10; out 1", "in -1; out 0",
        ):
            self.assertIsNone(row_by_its_words(text))
            self.refused(NoText, read_row, text)

    def test_very_long_numbers(self):
        for many in (18, 19, 20, 21, 60, 1000, 3980, 4300, 4301, 20000):
            for number in ("1" * many, "0" * many, "1" + "0" * many, "9" * many):
                for text in (f"in {number}; out 0", f"in 1; out {number}", f"in 1; not {number}; out 1",
                             f"in 2; add 0 {number}; out 2", f"in 1; none {number}; out 1"):
                    self.refused(NoText, read_row, text)

    def test_blanks(self):
        for text in (
            " in 1; out 0", "in 1; out 0 ", "in  1; out 0", "in 1;  out 0", "in 1;out 0", "in 1 ; out 0", "in1; out 0",
            "in 1; out  0", "in 1; out0", "in\t1; out 0", "in 1;\tout 0", "in 1; out\t0", "in 1\n; out 0", "in 1;\nout 0",
            "in 1; out 0\n", "\nin 1; out 0", "in 1; out 0\t", "in 1 out 0", "in 1;; out 0", "in 1; ; out 0",
            "in 1; out 0;", "in 1; out 0; ", "; in 1; out 0", "in 1, out 0", "in 1. out 0", "in 1; not  0; out 1",
            "in 1; not 0 ; out 1", "in 1; not 0;out 1", "in 1; not0; out 1", "in 2; add 0  1; out 2", "in 2; add 01; out 2",
            "in 2; add 0,1; out 2", "in 2; add 0, 1; out 2", "in 1; none ; out 1", "in 1;  none; out 1",
        ):
            self.refused(NoText, read_row, text)

    def test_other_first_words(self):
        for word in ("", "nor", "nand", "mul", "minus", "None", "NONE", "Not", "NOT", "nota", "no", "not:", "inc", "shl",
                     "in", "out", "tell", "(not", "'not'", "\"not\""):
            for numbers in ("", " 0", " 0 0"):
                self.refused(NoText, read_row, f"in 1; {word}{numbers}; out 0")
        for text in ("IN 1; out 0", "in 1; OUT 0", "In 1; out 0", "on 1; out 0", "inn 1; out 0", "in 1; ou 0",
                     "out 1; in 0", "in 1; in 0", "out 1; out 0", "i 1; o 0", "1; 0", "in; out"):
            self.refused(NoText, read_row, text)

    def test_too_few_and_too_many_numbers(self):
        for word, places in PLACES.items():
            for count in range(4):
                text = f"in 3; {word}{' 0' * count}; out 3"
                if count == places:
                    self.told((3, ((word,) + (0,) * count,), 3), text)
                else:
                    self.refused(NoText, read_row, text)

    def test_nine_deeds(self):
        for word, places in PLACES.items():
            for count in range(7, 12):
                text = f"in 1; {(word + ' 0' * places + '; ') * count}out 0"
                if count <= 8:
                    self.told((1, ((word,) + (0,) * places,) * count, 0), text)
                else:
                    self.refused(NoText, read_row, text)

    def test_parts_left_out_or_told_twice(self):
        parts = ["in 2", "add 0 1", "not 2", "out 3"]
        for at in range(4):
            self.by_its_words("; ".join(parts[:at] + parts[at + 1:]))
            self.by_its_words("; ".join(parts[:at + 1] + parts[at:]))
            for place in range(4):
                if at != place:
                    other = list(parts)
                    other[at], other[place] = other[place], other[at]
                    self.by_its_words("; ".join(other))
        for text in ("", "in 1", "out 0", "in 1; ", "; out 0", "in; out 0", "in 1; out", "in 1 1; out 0", "in 1; out 0 0",
                     "in 1; in 1; out 0", "in 1; out 0; out 0", "in 1; not 0", "not 0; out 1", "out 0; in 1",
                     "in 1; out 0; not 0", "not 0; in 1; out 1", "in 1; out 0; in 1; out 0", " ", ";", "; ", "in", "out"):
            self.refused(NoText, read_row, text)

    def test_what_is_no_text(self):
        for thing in (None, 0, 1, -1, 10 ** 60 - 1, True, False, (), [], {}, (1, (), 0), [1, (), 0], ("in 1; out 0",),
                      ["in 1; out 0"], {"in 1; out 0": 1}, ["in 1", "out 0"], [["in", 1], ["out", 0]], b"in 1; out 0"):
            self.refused(NoText, read_row, thing)

    def test_long_texts(self):
        for text in ("in 1; out 0" * 300, "in 1; " + "none; " * 600 + "out 0", "x" * 4000, " " * 4000, "; " * 2000,
                     "in 1; out 0" + " " * 3000, "0" * 4000):
            self.refused(NoText, read_row, text)

    def test_the_same_again(self):
        for row in some_rows(185, 30):
            self.assertEqual(show_row(row), show_row(row))
            self.assertIs(is_row(read_row(show_row(row))), True)


if __name__ == "__main__":
    unittest.main()
