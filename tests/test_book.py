"""A book of rows by names: point 14."""

import copy
import itertools
import unittest

from anywide.alike import alike
from anywide.book import Book
from anywide.errors import NoName, NoRow, Nothing
from refusals import Asked
from samples import GROUPS, chance, doubled, lively_rows, put_alike, some_rows, spelled

NO_NAMES = [
    "", "abcdefghi", "a" * 9, "a" * 4000, "A", "Abc", "aB", "ABCDEFGH", "a1", "1", "7a", "a_b", "_", "a-b", "a b", " a",
    "a ", " ", "a\n", "\na", "a\t", "\t", "~", "a.b", "{", "`", "@", "[", "a;", "\u00e4", "\u00df", "\u03b1", "\u0430",
    "\uff41", None, 0, 1, 7, -1, 10 ** 60 - 1, True, False, (), ("a",), ("a", "b"), [], ["a"], [["a"]], {}, {"a": "a"},
    [{"a": ("a",)}],
]
NO_ROWS = [
    None, 0, 1, True, "", "a", "in 1; out 0", (), (1,), (1, ()), (1, (), 1), (0, (), 0), (4, (), 0), (1, (), -1),
    (True, (), 0), (1, (), False), (1, [], 0), [1, (), 0], (1, (["not", 0],), 1), (1, (("not", 1),), 1),
    (1, (("not", False),), 1), (1, (("no", 0),), 1), (1, (("not",),), 1), (1, (("none",),) * 9, 0), [], {}, {"a": 1},
    (2, (("add", 0, 2),), 2),
]


def kinds_by_pairs(kept):
    """The kinds, by asking of each two rows whether they are alike."""
    kinds = []
    for name in sorted(kept):
        for kind in kinds:
            other = kept[kind[0]]
            if other[0] == kept[name][0] and alike(other, kept[name])[0] == "alike":
                kind.append(name)
                break
        else:
            kinds.append([name])
    return sorted(kinds)


class Books(Asked):
    def stands(self, book, kept, kinds=None):
        """The book keeps just this, by all that it tells."""
        self.assertEqual(repr(book.names()), repr(sorted(kept)))
        for name in kept:
            self.assertEqual(repr(book.row(name)), repr(kept[name]))
        self.assertEqual(repr(book.kinds()), repr(kinds_by_pairs(kept) if kinds is None else kinds))

    def goes_back(self, book, states):
        """A copy of the book goes back through these states, from the last one to the first."""
        book = copy.deepcopy(book)
        self.stands(book, states[-1])
        for state in states[-2::-1]:
            self.assertIsNone(book.back())
            self.stands(book, state)
        for _ in "ab":
            self.refused(Nothing, book.back)
            self.stands(book, states[0])

    def test_a_new_book(self):
        book = Book()
        self.stands(book, {}, [])
        self.refused(Nothing, book.back)
        self.refused(NoName, book.row, "a")
        self.refused(NoName, book.forget, "a")
        self.stands(book, {}, [])

    def test_names_of_one_and_of_eight_letters(self):
        book, kept = Book(), {}
        for name in ("a", "z", "m", "abcdefgh", "zzzzzzzz", "ab", "stuvwxy", "none", "ijklmnop", "qrstuvwx", "yz"):
            self.assertIsNone(self.asked(book.tell, name, (1, (), 0)))
            kept[name] = (1, (), 0)
            self.stands(book, kept, [sorted(kept)])

    def test_tell_and_forget(self):
        book = Book()
        first, second = spelled(1, "not 0"), spelled(2, "add 0 1")
        self.assertIsNone(book.tell("x", first))
        self.stands(book, {"x": first}, [["x"]])
        self.assertIsNone(book.tell("y", second))
        self.stands(book, {"x": first, "y": second}, [["x"], ["y"]])
        self.assertIsNone(book.tell("x", second))
        self.stands(book, {"x": second, "y": second}, [["x", "y"]])
        self.assertIsNone(book.forget("y"))
        self.stands(book, {"x": second}, [["x"]])
        self.refused(NoName, book.row, "y")
        self.refused(NoName, book.forget, "y")
        self.assertIsNone(book.forget("x"))
        self.stands(book, {}, [])

    def test_back_one_by_one(self):
        row, other = spelled(1, "not 0"), spelled(1, "neg 0")
        book, states = Book(), [{}]
        steps = [
            (book.tell, "a", row), (book.tell, "a", row), (book.tell, "b", other), (book.tell, "a", other),
            (book.forget, "a"), (book.tell, "a", row), (book.forget, "b"), (book.forget, "a"), (book.tell, "b", row),
            (book.tell, "b", row), (book.forget, "b"),
        ]
        for step, name, *rows in steps:
            self.assertIsNone(step(name, *rows))
            kept = dict(states[-1])
            if rows:
                kept[name] = rows[0]
            else:
                del kept[name]
            states.append(kept)
            self.goes_back(book, states)

    def test_the_very_row_told_again_is_a_step_of_its_own(self):
        row = spelled(1, "not 0")
        book = Book()
        for _ in range(3):
            book.tell("a", row)
        for _ in range(2):
            book.back()
            self.stands(book, {"a": row})
        book.back()
        self.stands(book, {})
        self.refused(Nothing, book.back)

    def test_what_is_undone_is_not_undone_again(self):
        row, other, third = spelled(1, "not 0"), spelled(1, "neg 0"), spelled(1, "one")
        book = Book()
        book.tell("a", row)
        book.tell("a", other)
        book.back()
        book.tell("a", third)
        book.back()
        self.stands(book, {"a": row})
        book.back()
        self.stands(book, {})
        self.refused(Nothing, book.back)
        book.tell("b", row)
        self.stands(book, {"b": row})
        book.back()
        self.refused(Nothing, book.back)

    def test_kinds_of_rows_told_alike_by_other_deeds(self):
        book, kinds = Book(), []
        letters = "abcdefghijklmnopqrstuvwxyz"
        for first, rows in zip(reversed(letters), GROUPS.values()):
            names = [first + second for second in letters[:len(rows)]]
            kinds.append(names)
            for name, row in zip(names, rows):
                book.tell(name, row)
        self.assertEqual(book.kinds(), sorted(kinds))

    def test_kinds_of_rows_that_part_at_a_greater_width_alone(self):
        book = Book()
        for name, times in zip("abcdefghi", range(9)):
            book.tell(name, doubled(1, times))
        book.tell("none", spelled(1, "none"))
        book.tell("six", doubled(1, 6, "add"))
        self.assertEqual(book.kinds(), [[name] for name in "abcdef"] + [["g", "six"], ["h"], ["i"], ["none"]])

    def test_kinds_of_rows_of_unlike_numbers_of_inputs(self):
        book = Book()
        for many, name in zip((1, 2, 3), "abc"):
            book.tell(name, spelled(many, "none"))
            book.tell(name * 2, spelled(many, "sub 0 0"))
            book.tell(name * 3, (many, (), 0))
        self.assertEqual(book.kinds(), [["a", "aa"], ["aaa"], ["b", "bb"], ["bbb"], ["c", "cc"], ["ccc"]])

    def test_kinds_and_names_are_sorted(self):
        book = Book()
        for name in ("ba", "b", "a", "bb", "ab", "z", "aa", "c"):
            book.tell(name, spelled(1, "not 0") if "b" in name else (1, (), 0))
        self.assertEqual(book.names(), ["a", "aa", "ab", "b", "ba", "bb", "c", "z"])
        self.assertEqual(book.kinds(), [["a", "aa", "c", "z"], ["ab", "b", "ba", "bb"]])
        book.tell("a", spelled(1, "neg 0"))
        self.assertEqual(book.kinds(), [["a"], ["aa", "c", "z"], ["ab", "b", "ba", "bb"]])
        book.tell("zz", spelled(1, "neg 0"))
        self.assertEqual(book.kinds(), [["a", "zz"], ["aa", "c", "z"], ["ab", "b", "ba", "bb"]])

    def test_kinds_go_by_what_a_name_has_now(self):
        book = Book()
        rows = [spelled(1, "not 0"), spelled(1, "neg 0"), (1, (), 0), spelled(1, "and 0 0")]
        book.tell("b", (1, (), 0))
        for row in rows + rows[::-1]:
            book.tell("a", row)
            alike_now = row[2] == 0 or row[1][0][0] == "and"
            self.assertEqual(book.kinds(), [["a", "b"]] if alike_now else [["a"], ["b"]])
            book.forget("a")
            self.assertEqual(book.kinds(), [["b"]])
            book.back()
            self.assertEqual(book.kinds(), [["a", "b"]] if alike_now else [["a"], ["b"]])

    def test_told_lists_are_the_askers_own(self):
        book = Book()
        kept = {"a": (1, (), 0), "b": spelled(1, "and 0 0"), "c": spelled(1, "not 0")}
        for name, row in kept.items():
            book.tell(name, row)
        names, kinds = book.names(), book.kinds()
        names.clear()
        kinds[0].append("c")
        kinds[1].clear()
        kinds.reverse()
        self.stands(book, kept, [["a", "b"], ["c"]])
        book.names().append("d")
        book.kinds()[0].clear()
        self.stands(book, kept, [["a", "b"], ["c"]])
        kinds = book.kinds()
        self.assertEqual(len({id(kind) for kind in kinds}), 2)
        self.assertIsNot(book.names(), book.names())
        self.assertIsNot(kinds, book.kinds())
        # And what is told later does not change what was told.
        names = book.names()
        book.tell("d", (1, (), 0))
        self.assertEqual((names, kinds), (["a", "b", "c"], [["a", "b"], ["c"]]))

    def filled(self):
        """A book, and all that it was from the first on."""
        book, states = Book(), [{}]
        for name, row in (("a", (1, (), 0)), ("b", spelled(2, "add 0 1")), ("a", spelled(1, "and 0 0"))):
            book.tell(name, row)
            states.append({**states[-1], name: row})
        book.forget("b")
        states.append({"a": spelled(1, "and 0 0")})
        book.tell("c", (1, (), 0))
        states.append({**states[-1], "c": (1, (), 0)})
        return book, states

    def test_no_name(self):
        book, states = self.filled()
        for name in NO_NAMES:
            self.refused(NoName, book.tell, name, (1, (), 0))
            self.refused(NoName, book.row, name)
            self.refused(NoName, book.forget, name)
            self.stands(book, states[-1])
        self.goes_back(book, states)

    def test_no_name_ahead_of_no_row(self):
        book, states = self.filled()
        for name, thing in itertools.product(NO_NAMES, NO_ROWS):
            self.refused(NoName, book.tell, name, thing)
        self.goes_back(book, states)

    def test_no_row(self):
        book, states = self.filled()
        for thing in NO_ROWS:
            for name in ("a", "b", "new"):
                self.refused(NoRow, book.tell, name, thing)
            self.stands(book, states[-1])
        self.goes_back(book, states)

    def test_a_name_that_is_not_kept(self):
        book, states = self.filled()
        for name in ("b", "d", "aa", "z", "abcdefgh"):
            self.refused(NoName, book.row, name)
            self.refused(NoName, book.forget, name)
            self.stands(book, states[-1])
        self.goes_back(book, states)

    def test_asking_changes_nothing(self):
        book, states = self.filled()
        for _ in range(3):
            for step in (book.names, book.kinds):
                step()
            book.row("a")
            self.goes_back(book, states)

    def test_two_books_side_by_side(self):
        one, other = Book(), Book()
        one.tell("a", (1, (), 0))
        self.stands(other, {})
        self.refused(Nothing, other.back)
        self.refused(NoName, other.forget, "a")
        other.tell("a", spelled(2, "xor 0 1"))
        other.tell("b", spelled(2, "xor 1 0"))
        self.stands(one, {"a": (1, (), 0)}, [["a"]])
        self.stands(other, {"a": spelled(2, "xor 0 1"), "b": spelled(2, "xor 1 0")}, [["a", "b"]])
        other.forget("a")
        one.back()
        self.stands(one, {})
        self.stands(other, {"b": spelled(2, "xor 1 0")})
        self.refused(Nothing, one.back)
        other.back()
        self.stands(other, {"a": spelled(2, "xor 0 1"), "b": spelled(2, "xor 1 0")})

    def test_long_lives(self):
        rand = chance(171)
        drawn = some_rows(172, 24) + lively_rows(173, 24)
        rows = drawn + [put_alike(rand, row) for row in drawn] + [rand.choice(group) for group in GROUPS.values()]
        for _ in range(40):
            book, states = Book(), [{}]
            for step in range(40):
                name = rand.choice(("a", "b", "c", "dd", "ee", "longname"))
                what = rand.choice(("tell", "tell", "tell", "forget", "back", "wrong"))
                kept = dict(states[-1])
                if what == "tell":
                    kept[name] = rand.choice(rows)
                    self.assertIsNone(book.tell(name, kept[name]))
                    states.append(kept)
                elif what == "forget" and name in kept:
                    del kept[name]
                    self.assertIsNone(book.forget(name))
                    states.append(kept)
                elif what == "forget":
                    self.refused(NoName, book.forget, name)
                elif what == "back" and len(states) > 1:
                    self.assertIsNone(book.back())
                    states.pop()
                elif what == "back":
                    self.refused(Nothing, book.back)
                else:
                    self.refused(NoRow, book.tell, name, rand.choice(NO_ROWS))
                self.stands(book, states[-1])
            self.goes_back(book, states)


if __name__ == "__main__":
    unittest.main()
