"""Rules that fit, rows put otherwise, mended rows and chains: point 12."""

import functools
import unittest

from anywide.alike import alike
from anywide.errors import NoRule
from anywide.mending import fitting, is_chain, mended, put_otherwise
from anywide.rows import cost, is_row, worth
from refusals import Asked
from samples import (
    GROUPS, PLACES, all_words, chance, doubled, lively_rows, put_alike, some_rows, spelled, with_a_further_deed,
    words_to_try,
)

# Things that are neither a value's number nor a rule.
OTHER_THINGS = [
    True, False, None, "", "1", "3", "drop 3", "dropped", "Drop", "DROP", " drop", "drop ", "same\n", "\tsame", "sam",
    "none", "not", "out", (), (3,), ("drop",), ("drop", 3), ("same", 3), [], [3], ["drop"], [("drop", 3)], {}, {3: 3},
    {"drop": 3}, [[[[]]]], ((((),),),), [{"a": (None, [True])}], "x" * 4000, 10 ** 60 - 1, 1 - 10 ** 60,
]
NUMBERS = list(range(-13, 24)) + [2 ** 31, 2 ** 64, 10 ** 59]
COSTS = [dict.fromkeys(PLACES, 1), dict.fromkeys(PLACES, 9)] + [{**dict.fromkeys(PLACES, 1), word: 9} for word in PLACES]
COSTS += [{**dict.fromkeys(PLACES, 9), word: 1} for word in PLACES]


def had(row, value):
    return row[2] == value or any(value in numbers for word, *numbers in row[1])


def first_alike(row, value):
    """The first value ahead that is alike as out, or None; by asking for two whole rows each time."""
    many, deeds, out = row
    for ahead in range(value):
        if alike((many, deeds, ahead), (many, deeds, value))[0] == "alike":
            return ahead
    return None


def fitting_by_its_words(row):
    values = range(row[0], row[0] + len(row[1]))
    drops = [("drop", value) for value in values if not had(row, value)]
    return drops + [("same", value) for value in values if had(row, value) and first_alike(row, value) is not None]


def other_by_its_words(row, rule, value):
    """What the row becomes by a rule that fits."""
    many, deeds, out = row

    def moved(number):
        if rule == "drop":
            return number - (number > value)
        return first_alike(row, value) if number == value else number

    left = [deed for at, deed in enumerate(deeds) if rule == "same" or many + at != value]
    return (many, tuple((word, *map(moved, numbers)) for word, *numbers in left), moved(out))


@functools.lru_cache(maxsize=None)
def looks_of_steps(row):
    return [repr((rule, value, other_by_its_words(row, rule, value))) for rule, value in fitting_by_its_words(row)]


def chain_by_its_words(row, thing):
    """Looks are compared: they tell True from 1 and a list from a tuple."""
    if type(thing) is not list:
        return False
    for step in thing:
        if repr(step) not in looks_of_steps(row):
            return False
        row = step[2]
    return True


def rows_to_mend():
    """Rows with values that nothing has, with values that come twice, and any."""
    rand = chance(141)
    rows = [with_a_further_deed(rand, row) for row in some_rows(142, 54) if len(row[1]) < 8]
    rows += [put_alike(rand, row) for row in lively_rows(143, 54)]
    for row in lively_rows(144, 108):
        many, deeds, out = row
        if 0 < len(deeds) < 8:
            deed = rand.choice(deeds)
            rows.append((many, deeds + (deed,), many + len(deeds)))
            if len(deeds) < 7:
                last = (rand.choice(("add", "xor", "or")), out, many + len(deeds))
                rows.append((many, deeds + (deed, last), many + len(deeds) + 1))
    for group in GROUPS.values():
        rows += group
    return rows + some_rows(145, 54) + lively_rows(146, 54)


class Fitting(Asked):
    def told(self, row, expected):
        result = self.asked(fitting, row)
        self.assertEqual(repr(result), repr(expected), row)

    def test_rows_at_which_none_fits(self):
        for many in (1, 2, 3):
            for out in range(many):
                self.told((many, (), out), [])
        for row in (spelled(1, "none"), spelled(1, "neg 0"), spelled(2, "add 0 1", "xor 2 0"), spelled(3, "and 1 2", "not 3")):
            self.told(row, [])
        for times in range(9):
            self.told(doubled(1, times), [])

    def test_values_that_nothing_has(self):
        self.told((1, (("not", 0),), 0), [("drop", 1)])
        self.told((3, (("not", 0),), 0), [("drop", 3)])
        self.told((1, (("not", 0), ("twice", 1)), 1), [("drop", 2)])
        self.told((1, (("not", 0), ("twice", 0)), 2), [("drop", 1)])
        # A value that only a dropped one's deed has is not yet without use.
        self.told((1, (("not", 0), ("twice", 1)), 0), [("drop", 2)])
        self.told((2, (("one",), ("neg", 0), ("sub", 0, 1)), 0), [("drop", 2), ("drop", 3), ("drop", 4)])
        deeds = (("one",), ("all",), ("not", 0), ("neg", 0), ("twice", 0), ("and", 0, 1), ("or", 0, 1), ("xor", 0, 1))
        self.told((2, deeds, 0), [("drop", value) for value in range(2, 10)])
        self.told((2, deeds, 6), [("drop", value) for value in (2, 3, 4, 5, 7, 8, 9)])

    def test_values_told_twice(self):
        self.told(spelled(2, "add 0 1", "add 0 1"), [("drop", 2), ("same", 3)])
        self.told(spelled(2, "add 0 1", "add 0 1", "xor 2 3"), [("same", 3)])
        self.told(spelled(2, "add 0 1", "add 1 0", "and 2 3"), [("same", 3), ("same", 4)])
        self.told(spelled(1, "twice 0", "add 0 0", "neg 1", "sub 3 2"), [("same", 2)])
        self.told(spelled(2, "xor 0 1", "and 0 1", "twice 3", "add 2 4", "add 0 1", "sub 5 6", "or 7 6"),
                  [("same", 6), ("same", 8)])

    def test_a_value_alike_to_an_input(self):
        self.told(spelled(1, "not 0", "not 1"), [("same", 2)])
        self.told(spelled(1, "and 0 0"), [("same", 1)])
        self.told(spelled(3, "or 2 2", "add 0 3"), [("same", 3)])
        self.told(spelled(2, "add 0 1", "sub 2 0"), [("same", 3)])

    def test_a_same_that_would_change_nothing_does_not_fit(self):
        self.told((1, (("and", 0, 0),), 0), [("drop", 1)])
        self.told((2, (("add", 0, 1), ("add", 0, 1)), 2), [("drop", 3)])
        self.told((2, (("none",), ("xor", 0, 0), ("sub", 1, 1)), 2), [("drop", 3), ("drop", 4)])

    def test_drop_ahead_of_same_each_by_rising_values(self):
        row = (1, (("twice", 0), ("add", 0, 0), ("not", 0), ("not", 0), ("neg", 0), ("or", 2, 4), ("one",)), 6)
        self.told(row, [("drop", 1), ("drop", 3), ("drop", 5), ("drop", 7), ("same", 2), ("same", 4)])

    def test_values_that_part_at_a_greater_width_alone(self):
        # One and all are one word at the width 1.
        self.told(spelled(1, "one", "all", "add 1 2", "add 3 1"), [("same", 4)])
        self.told(spelled(1, "all", "one", "xor 1 2"), [])
        row = spelled(1, "none", "one", "twice 2", "twice 3", "twice 4", "twice 5", "twice 6", "or 1 7")
        self.told(row, [("same", 8)])
        self.assertEqual(put_otherwise(row, "same", 8)[2], 7)

    def test_all_rows(self):
        seen = {"drop": 0, "same": 0}
        for row in rows_to_mend():
            expected = fitting_by_its_words(row)
            self.told(row, expected)
            for rule, value in expected:
                seen[rule] += 1
        self.assertGreater(min(seen.values()), 150)

    def test_told_lists_are_the_askers_own(self):
        for row in rows_to_mend()[::9]:
            first = fitting(row)
            expected = list(first)
            first.append(("drop", 0))
            first.reverse()
            self.assertEqual(fitting(row), expected)
            self.assertIsNot(fitting(row), fitting(row))


class PutOtherwise(Asked):
    def told(self, row, rule, value, expected):
        result = self.asked(put_otherwise, row, rule, value)
        self.assertEqual(repr(result), repr(expected), (row, rule, value))

    def test_drop(self):
        self.told((1, (("not", 0),), 0), "drop", 1, (1, (), 0))
        self.told((2, (("one",), ("neg", 0), ("sub", 0, 1)), 0), "drop", 3, (2, (("one",), ("sub", 0, 1)), 0))
        self.told((1, (("not", 0), ("twice", 0)), 2), "drop", 1, (1, (("twice", 0),), 1))

    def test_the_numbers_behind_a_drop(self):
        row = (2, (("one",), ("add", 0, 1), ("neg", 3), ("sub", 3, 4), ("xor", 5, 1)), 6)
        self.told(row, "drop", 2, (2, (("add", 0, 1), ("neg", 2), ("sub", 2, 3), ("xor", 4, 1)), 5))
        row = (2, (("add", 0, 1), ("neg", 2), ("all",), ("sub", 2, 3), ("xor", 5, 1)), 6)
        self.told(row, "drop", 4, (2, (("add", 0, 1), ("neg", 2), ("sub", 2, 3), ("xor", 4, 1)), 5))
        row = (2, (("add", 0, 1), ("neg", 2), ("sub", 2, 3), ("xor", 4, 1), ("all",)), 5)
        self.told(row, "drop", 6, (2, (("add", 0, 1), ("neg", 2), ("sub", 2, 3), ("xor", 4, 1)), 5))
        row = (2, (("add", 0, 1), ("neg", 2), ("sub", 2, 3), ("xor", 4, 1)), 3)
        self.told(row, "drop", 5, (2, (("add", 0, 1), ("neg", 2), ("sub", 2, 3)), 3))

    def test_same(self):
        self.told(spelled(1, "not 0", "not 1"), "same", 2, (1, (("not", 0), ("not", 1)), 0))
        self.told(spelled(2, "add 0 1", "add 1 0", "and 2 3"), "same", 3, spelled(2, "add 0 1", "add 1 0", "and 2 2"))
        self.told(spelled(2, "add 0 1", "add 1 0", "and 2 3"), "same", 4, (2, spelled(2, "add 0 1", "add 1 0", "and 2 3")[1], 2))
        # Wherever it stands: twice in one deed, in several, and as out.
        row = (1, (("twice", 0), ("add", 0, 0), ("xor", 2, 2), ("sub", 2, 0), ("sub", 0, 2), ("neg", 2)), 2)
        self.told(row, "same", 2, (1, (("twice", 0), ("add", 0, 0), ("xor", 1, 1), ("sub", 1, 0), ("sub", 0, 1), ("neg", 1)), 1))

    def test_same_takes_the_first_value_that_is_alike(self):
        row = (1, (("neg", 0), ("neg", 1), ("not", 0), ("not", 3), ("or", 0, 0), ("add", 2, 4), ("and", 5, 6)), 7)
        self.told(row, "same", 5, (1, row[1][:6] + (("and", 0, 6),), 7))
        self.told(row, "same", 4, (1, row[1][:5] + (("add", 2, 0), ("and", 5, 6)), 7))
        row = (1, (("none",), ("xor", 0, 0), ("sub", 0, 0), ("and", 1, 2), ("add", 3, 4)), 5)
        for value, deeds in ((2, row[1][:3] + (("and", 1, 1), ("add", 3, 4))), (3, row[1][:4] + (("add", 1, 4),)),
                             (4, row[1][:4] + (("add", 3, 1),))):
            self.told(row, "same", value, (1, deeds, 5))
        self.told(row, "same", 5, (1, row[1], 1))

    def test_all_rows_at_each_that_fits(self):
        for row in rows_to_mend():
            for rule, value in fitting(row):
                expected = other_by_its_words(row, rule, value)
                self.told(row, rule, value, expected)
                self.assertIs(is_row(expected), True)
                self.assertNotEqual(row, expected)
                self.assertEqual(alike(row, expected)[0], "alike")

    def test_worths_stay(self):
        for row in rows_to_mend()[::5]:
            for rule, value in fitting(row):
                other = put_otherwise(row, rule, value)
                for words in all_words(row[0], 2):
                    self.assertEqual(worth(row, 2, words), worth(other, 2, words))
                for word in words_to_try(60):
                    self.assertEqual(worth(row, 60, [word] * row[0]), worth(other, 60, [word] * row[0]))

    def test_each_rule_at_each_value_that_does_not_fit(self):
        for row in rows_to_mend()[::4]:
            fit = fitting(row)
            for rule in ("drop", "same"):
                for value in NUMBERS:
                    if (rule, value) not in fit:
                        self.refused(NoRule, put_otherwise, row, rule, value)

    def test_other_things_as_value_and_as_rule(self):
        # Values 1 and 0 with which truths could be taken for numbers, and rows with no deeds.
        rows = [(1, (("not", 0),), 0), spelled(1, "and 0 0"), spelled(1, "not 0", "not 1"), (2, (), 1), (1, (), 0),
                (1, (("one",), ("all",), ("and", 0, 0)), 3), spelled(2, "add 0 1", "add 0 1", "xor 2 3")]
        for row in rows:
            for rule in ("drop", "same"):
                for value in OTHER_THINGS:
                    self.refused(NoRule, put_otherwise, row, rule, value)
            for rule in OTHER_THINGS + NUMBERS:
                for value in range(-1, 6):
                    self.refused(NoRule, put_otherwise, row, rule, value)
                self.refused(NoRule, put_otherwise, row, rule, rule)
            for rule in OTHER_THINGS:
                for value in OTHER_THINGS:
                    self.refused(NoRule, put_otherwise, row, rule, value)
        self.told((1, (("not", 0),), 0), "drop", 1, (1, (), 0))
        self.told(spelled(1, "and 0 0"), "same", 1, (1, (("and", 0, 0),), 0))


class Mended(Asked):
    def told(self, row, expected):
        self.assertEqual(repr(self.asked(mended, row)), repr(expected), row)

    def test_rows_by_hand(self):
        self.told((1, (("not", 0),), 0), [("drop", 1, (1, (), 0))])
        deeds = (("not", 0), ("not", 1))
        self.told((1, deeds, 2), [("same", 2, (1, deeds, 0)), ("drop", 2, (1, deeds[:1], 0)), ("drop", 1, (1, (), 0))])
        self.told(spelled(2, "add 0 1", "add 0 1", "xor 2 3"), [
            ("same", 3, spelled(2, "add 0 1", "add 0 1", "xor 2 2")), ("drop", 3, spelled(2, "add 0 1", "xor 2 2")),
        ])
        self.told(spelled(2, "add 0 1", "add 1 0", "and 2 3"), [
            ("same", 3, spelled(2, "add 0 1", "add 1 0", "and 2 2")), ("drop", 3, spelled(2, "add 0 1", "and 2 2")),
            ("same", 3, (2, (("add", 0, 1), ("and", 2, 2)), 2)), ("drop", 3, spelled(2, "add 0 1")),
        ])

    def test_rows_at_which_none_fits(self):
        for row in [(many, (), out) for many in (1, 2, 3) for out in range(many)] + [doubled(2, 8), spelled(1, "all")]:
            self.told(row, [])

    def test_all_rows(self):
        longest = 0
        for row in rows_to_mend():
            chain = self.asked(mended, row)
            self.assertIs(type(chain), list)
            ahead = row
            for step in chain:
                rule, value = fitting_by_its_words(ahead)[0]
                self.assertEqual(repr(step), repr((rule, value, other_by_its_words(ahead, rule, value))))
                behind = step[2]
                self.assertIs(is_row(behind), True)
                self.assertEqual(alike(ahead, behind)[0], "alike")
                for costs in COSTS:
                    self.assertLessEqual(cost(behind, costs), cost(ahead, costs))
                ahead = behind
            self.assertEqual(fitting_by_its_words(ahead), [])
            self.assertEqual(alike(row, ahead)[0], "alike")
            self.assertIs(self.asked(is_chain, row, chain), True)
            longest = max(longest, len(chain))
        self.assertGreater(longest, 8)

    def test_the_same_again_and_the_askers_own(self):
        for row in rows_to_mend()[::5]:
            first = mended(row)
            expected = list(first)
            first.append("more")
            first.reverse()
            self.assertEqual(mended(row), expected)
            self.assertIsNot(mended(row), mended(row))


def exchanged(thing):
    """Things like this one but with another thing at one place."""
    if type(thing) is int:
        others = [thing + 1, thing - 1, None, str(thing), (thing,)] + [bool(thing)] * (thing in (0, 1))
    elif type(thing) is str:
        others = [thing + " ", thing.upper(), thing[:-1], None, 0, (thing,), "drop", "same", "none", "add"]
    else:
        others = [type(thing)(), None, 0, "", (list if type(thing) is tuple else tuple)(thing), {}]
        for at, part in enumerate(thing):
            parts = list(thing)
            others.append(type(thing)(parts[:at] + parts[at + 1:]))
            others.append(type(thing)(parts[:at + 1] + parts[at:]))
            for other in exchanged(part):
                others.append(type(thing)(parts[:at] + [other] + parts[at + 1:]))
    return others


class IsChain(Asked):
    def told(self, row, thing, expected):
        self.assertIs(self.asked(is_chain, row, thing), expected, (row, thing))

    def by_its_words(self, row, thing):
        expected = chain_by_its_words(row, thing)
        self.told(row, thing, expected)
        return expected

    def rows(self):
        return [row for row in rows_to_mend() if fitting(row)]

    def test_the_empty_list_is_a_chain_from_each_row(self):
        for row in some_rows(151, 60):
            self.told(row, [], True)

    def test_rows_by_hand(self):
        deeds = (("not", 0), ("not", 1))
        row = (1, deeds, 2)
        same = ("same", 2, (1, deeds, 0))
        drop = ("drop", 2, (1, deeds[:1], 0))
        last = ("drop", 1, (1, (), 0))
        self.told(row, [same, drop, last], True)
        self.told(row, [same, drop], True)
        self.told(row, [same], True)
        for steps in ([drop], [last], [drop, same], [same, last], [same, same], [same, drop, drop], [same, drop, last, last],
                      [last, drop, same]):
            self.told(row, steps, False)
        self.told(row, (same, drop, last), False)
        self.told(row, {0: same}, False)
        self.told(row, [list(same), drop, last], False)
        self.told(row, [same[:2], drop, last], False)
        self.told(row, [same + (row,), drop, last], False)
        self.told(row, [same, drop, ("drop", True, (1, (), 0))], False)
        self.told(row, [same, drop, ("drop", 1, (True, (), 0))], False)
        self.told(row, [same, drop, ("drop", 1, (1, (), False))], False)
        self.told(row, [same, drop, ("drop", 1, (1, [], 0))], False)
        self.told(row, [same, drop, ("drop", 1, [1, (), 0])], False)
        self.told(row, [same, ("drop", 2, (1, (["not", 0],), 0)), last], False)
        self.told(row, [same, ("drop", 2, (1, (("not", False),), 0)), last], False)
        self.told(row, [("same", 2, (1, (("not", 0), ("not", True)), 0))], False)

    def test_a_step_that_fits_need_not_be_the_first_one(self):
        row = (1, (("not", 0), ("neg", 0), ("one",)), 0)
        self.told(row, [("drop", 3, (1, (("not", 0), ("neg", 0)), 0))], True)
        self.told(row, [("drop", 2, (1, (("not", 0), ("one",)), 0)), ("drop", 2, (1, (("not", 0),), 0))], True)
        rand = chance(152)
        for start in self.rows():
            ahead, chain = start, []
            while fit := fitting(ahead):
                rule, value = rand.choice(fit)
                ahead = put_otherwise(ahead, rule, value)
                chain.append((rule, value, ahead))
            self.told(start, chain, True)
            self.assertEqual(alike(start, ahead)[0], "alike")

    def test_told_chains_cut_ones_and_such_with_steps_exchanged(self):
        seen = {True: 0, False: 0}
        for row in self.rows()[::2]:
            chain = mended(row)
            for many in range(len(chain) + 1):
                self.told(row, chain[:many], True)
            for at in range(len(chain)):
                seen[self.by_its_words(row, chain[:at] + chain[at + 1:])] += 1
                seen[self.by_its_words(row, chain[:at + 1] + chain[at:])] += 1
                other = list(chain)
                other[at - 1], other[at] = other[at], other[at - 1]
                seen[self.by_its_words(row, other)] += 1
            self.told(row, tuple(chain), False)
            self.told(row, chain + [chain], False)
            self.told(row, chain + [None], False)
        self.assertGreater(seen[False], 300)

    def test_another_rule_value_or_row(self):
        for row in self.rows()[::6]:
            chain = mended(row)
            for at, (rule, value, behind) in enumerate(chain):
                ahead = chain[at - 1][2] if at else row
                others = [("same" if rule == "drop" else "drop", value, behind), (rule, value, ahead),
                          (rule, behind, value), (value, rule, behind)]
                others += [(rule, other, behind) for other in range(-2, 13) if other != value]
                for other in others:
                    self.by_its_words(row, chain[:at] + [other] + chain[at + 1:])

    def test_something_else_at_any_place(self):
        seen = {True: 0, False: 0}
        for row in self.rows()[::80] + [spelled(1, "not 0", "not 1"), spelled(2, "add 0 1", "add 0 1", "xor 2 3")]:
            for other in exchanged(mended(row)):
                seen[self.by_its_words(row, other)] += 1
        self.assertGreater(seen[False], 2000)

    def test_things_that_are_no_list(self):
        for row in (spelled(1, "not 0", "not 1"), (1, (), 0), (1, (("not", 0),), 0), spelled(3, "none")):
            for thing in OTHER_THINGS + NUMBERS + [row, (row,), {}, ()]:
                self.told(row, thing, thing == [] and type(thing) is list)
                self.told(row, [thing], False)
                self.told(row, [("drop", 1, thing)], False)
                self.told(row, [("drop", thing, row)], False)
                self.told(row, [(thing, 1, row)], False)
                self.told(row, [(thing, thing, thing)], False)

    def test_rows_of_more_than_eight_deeds(self):
        # More deeds than a row has, but nothing is refused for that.
        deeds = (("not", 0),) + tuple(("not", at) for at in range(1, 10))
        row = (1, deeds, 10)
        chain = mended(row)
        self.assertEqual(chain[-1][2], (1, (), 0))
        self.told(row, chain, True)
        self.told(row, chain[1:], False)


if __name__ == "__main__":
    unittest.main()
