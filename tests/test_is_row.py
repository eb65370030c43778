"""Of anything it is told whether it is a row: point 4, and point 2 for whole numbers."""

import copy
import re
import unittest

from anywide.rows import is_row
from samples import PLACES, chance, some_deed, some_row, some_rows

NUMBER = r"(?:0|[1-9][0-9]*)"
DEED = re.compile(
    rf"\('(none|one|all)',\)|\('(?:not|neg|twice)', ({NUMBER})\)"
    rf"|\('(?:and|or|xor|add|sub)', ({NUMBER}), ({NUMBER})\)"
)
ROW = re.compile(rf"\(([123]), \((.*)\), ({NUMBER})\)")

WHOLES = (0, 1, 2, 3, 4, 7, 8, 11, -1, -2, 10 ** 60 - 1, 1 - 10 ** 60)
ODD = (
    None, True, False, "", "none", "add", "(1, (), 0)", " ~\t\n" * 1000, (), [], {}, (0,), [0], {0: 0},
    ("none",), ["none"], ("add", 0, 0), {"none": ()}, (1, (), 0), [1, [], 0], {1: (), 0: None},
    (((((((((),),),),),),),),), [[[[[[[[]]]]]]]], {"a": {"b": [{"c": (None, True)}]}},
)


def row_by_its_looks(thing):
    """Point 4 once more, by what Python writes for the thing: it tells tuples, lists and truths apart."""
    looks = ROW.fullmatch(repr(thing))
    if looks is None:
        return False
    many, inner, out = int(looks[1]), looks[2], int(looks[3])
    at = count = 0
    while at < len(inner):
        deed = DEED.match(inner, at)
        if deed is None or any(int(number) >= many + count for number in deed.groups()[1:] if number):
            return False
        at, count = deed.end(), count + 1
        comma = "," if count == 1 and at + 1 == len(inner) else ", "
        if at < len(inner):
            if not inner.startswith(comma, at):
                return False
            at += len(comma)
    return count <= 8 and out < many + count


def changed_once(rand, thing):
    """thing with one place in it changed: put otherwise, left out, put in, or made a list."""
    if not isinstance(thing, (tuple, list)) or not thing or rand.random() < 0.2:
        return rand.choice(
            [rand.choice(WHOLES), rand.choice(ODD), rand.choice(list(PLACES)), some_deed(rand, 4), some_row(rand)]
        )
    parts = list(thing)
    at = rand.randrange(len(parts))
    way = rand.randrange(8)
    if way == 0:
        del parts[at]
    elif way == 1:
        parts.insert(at, copy.deepcopy(rand.choice(parts)))
    elif way == 2:
        return parts if isinstance(thing, tuple) else tuple(parts)
    else:
        parts[at] = changed_once(rand, parts[at])
    return tuple(parts) if isinstance(thing, tuple) else parts


class IsRow(unittest.TestCase):
    def told(self, thing, expected):
        before = copy.deepcopy(thing)
        looks = repr(thing)
        result = is_row(thing)
        self.assertIs(result, expected, looks[:200])
        self.assertEqual(thing, before)
        self.assertEqual(repr(thing), looks)

    def rows(self, *things):
        for thing in things:
            self.told(thing, True)

    def none_of(self, *things):
        for thing in things:
            self.told(thing, False)

    def test_rows_of_each_number_of_inputs_and_deeds(self):
        for row in some_rows(4, 810):
            self.told(row, True)

    def test_rows_of_one_kind_of_deed(self):
        for many in (1, 2, 3):
            for word, places in PLACES.items():
                for length in range(9):
                    # The last value ahead of each deed is the greatest number it may have.
                    last = tuple((word,) + (many + at - 1,) * places for at in range(length))
                    first = tuple((word,) + (0,) * places for at in range(length))
                    for out in range(many + length):
                        self.rows((many, last, out), (many, first, out))

    def test_row_without_deeds(self):
        self.rows((1, (), 0), (2, (), 0), (2, (), 1), (3, (), 2))
        self.none_of((1, (), 1), (2, (), 2), (3, (), 3))

    def test_other_numbers_of_inputs(self):
        for many in (0, -1, 4, 5, 10 ** 60 - 1, 1 - 10 ** 60):
            self.none_of((many, (), 0), (many, (("one",),), 0))

    def test_ninth_deed(self):
        for many in (1, 2, 3):
            self.rows((many, (("one",),) * 8, many + 7))
            for length in (9, 10, 20):
                self.none_of((many, (("one",),) * length, 0), (many, (("not", 0),) * length, many + 8))

    def test_numbers_that_are_not_ahead_of_the_deeds_own(self):
        for word, places in PLACES.items():
            for place in range(places):
                def deed(number):
                    return (word,) + (1,) * place + (number,) + (1,) * (places - place - 1)

                for wrong in (2, 3, 4, 9, 10 ** 60 - 1, -1, -2, 1 - 10 ** 60):
                    self.none_of((2, (deed(wrong),), 0), (2, (deed(wrong), ("one",), ("one",)), 0))
                self.rows((2, (deed(1),), 0), (2, (("one",), deed(2)), 3), (3, (deed(2),), 3))
                self.none_of((2, (("one",), deed(3)), 3), (3, (deed(3),), 3), (2, (("one",), deed(-1)), 3))

    def test_out_beyond_the_values_or_below_nought(self):
        for many in (1, 2, 3):
            for length in range(9):
                deeds = (("twice", 0),) * length
                self.rows((many, deeds, many + length - 1))
                self.none_of(*[(many, deeds, out) for out in (many + length, many + length + 1, 10 ** 60 - 1, -1, -9)])

    def test_truths_for_whole_numbers(self):
        self.rows((1, (("and", 0, 0),), 1))
        self.none_of(
            (True, (), 0), (True, (("and", 0, 0),), 1), (1, (), False), (1, (("not", 0),), True), (2, (), True),
            (1, (("not", False),), 1), (1, (("and", False, 0),), 1), (1, (("and", 0, False),), 1),
            (2, (("add", True, 0),), 1), (2, (("sub", 0, True),), 1), (True, False, True), (False, (), 0),
        )

    def test_lists_for_tuples(self):
        self.none_of(
            [1, (), 0], [1, [], 0], (1, [], 0), (1, [("one",)], 0), (1, (["one"],), 0), (1, (["not", 0],), 1),
            (1, (("one",), ["add", 0, 1]), 1), [1, (("one",),), 1], (1, (("not", [0]),), 0), ([1], (), 0), (1, (), [0]),
        )

    def test_other_first_words(self):
        words = ("", "None", "NONE", "none ", " none", "nor", "nand", "mul", "in", "out", "twic", "twice\n", "n")
        things = (None, 0, 1, True, ("none",), ["none"], {"none": 0}, {}, [])
        for first in words + things:
            self.none_of((1, ((first,),), 0), (1, ((first, 0),), 0), (1, ((first, 0, 0),), 0))

    def test_deeds_of_a_wrong_length(self):
        self.none_of((1, ((),), 0), (1, ((), ("one",)), 0))
        for word, places in PLACES.items():
            for length in range(6):
                self.told((1, ((word,) + (0,) * length,), 0), length == places)

    def test_tuples_of_other_lengths(self):
        self.none_of((), (1,), (1, ()), (1, (), 0, 0), (1, (), 0, ()), ((1, (), 0),), ((), (), ()))

    def test_deeds_that_are_no_tuple_of_deeds(self):
        for deeds in (None, 0, True, "", "none", {}, {("one",): 0}, ("one",), ("none", "one"), (None,), (0,), ({},),
                      ((("one",),),), ("",), (("one",), None), (("one",), "one")):
            self.none_of((1, deeds, 0))

    def test_other_things(self):
        for thing in ODD:
            self.told(thing, thing == (1, (), 0) and isinstance(thing, tuple))
        for thing in WHOLES:
            self.none_of(thing)
        for odd in ODD:
            self.none_of((odd, (), 0), (1, (), odd), (odd, (), odd), (odd, odd, odd), (1, (odd, None), 0), (odd,))
            self.none_of((1, (("not", odd),), 0), (1, (("add", 0, odd),), 0), (1, (("add", odd, 0),), 0))
            if odd != ():
                self.none_of((1, odd, 0))

    def test_things_within_one_another(self):
        row = thing = (1, (("not", 0),), 1)
        for at in range(6):
            thing = ((thing,), [thing], {"a": thing})[at % 3]
            self.none_of(thing, (1, thing, 0), (1, (thing,), 0), (thing, (), 0), (1, (), thing))
        self.none_of((row, row, row), (1, row, 0), (1, (row,), 0), (row, (), 0), (1, (), row), (1, (("not", row),), 1))

    def test_changed_rows_against_what_they_look_like(self):
        rand = chance(44)
        seen = {True: 0, False: 0}
        for row in some_rows(45, 6000):
            thing = changed_once(rand, row)
            if rand.random() < 0.3:
                thing = changed_once(rand, thing)
            expected = row_by_its_looks(thing)
            seen[expected] += 1
            self.told(thing, expected)
        self.assertGreater(seen[True], 500)
        self.assertGreater(seen[False], 2000)


if __name__ == "__main__":
    unittest.main()
