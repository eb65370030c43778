"""A desk that is told rows of words: point 16."""

import copy
import re
import unittest

from anywide.alike import alike
from anywide.atmost import at_most
from anywide.book import Book
from anywide.counts import how_often
from anywide.desk import Desk
from anywide.errors import NoName, NoPair, NoRow, NoText, Nothing, TooMany, WideError
from anywide.joining import put_together
from anywide.machines import least_machine
from anywide.mending import mended
from anywide.rows import worth
from anywide.texts import read_row, show_row
from anywide.turning import turned
from refusals import Asked
from samples import GROUPS, chance, lively_rows, put_alike, some_rows, spelled

NAME = "[a-z]{1,8}"
NUMBER = "(?:0|[1-9][0-9]{0,18})"
WIDTH = "(?:[1-9]|[1-5][0-9]|60)"
FORMS = [
    f"tell {NAME}(?: [^ ]+)+", f"forget {NAME}", "back", f"show {NAME}", "names", "kinds",
    f"worth {NAME} {WIDTH}(?: {NUMBER})+", f"alike {NAME} {NAME}", f"turned {NAME}", f"most {NAME} {NAME}",
    f"states {NAME}", f"agree {NAME} {NAME} {WIDTH}", f"mend {NAME}", f"put {NAME} {NAME}(?: {NAME})+",
]

# Rows of words on a desk that keeps FILLED: each is taken.
FILLED = [
    "tell x in 1; out 0", "tell neg in 1; neg 0; out 1", "tell long in 1; not 0; not 1; out 2",
    "tell sum in 2; add 0 1; out 2", "tell mix in 2; xor 0 1; out 2", "tell less in 3; sub 0 1; or 3 2; out 4",
    "tell eight in 1; twice 0; twice 1; twice 2; twice 3; twice 4; twice 5; twice 6; twice 7; out 8",
]
TAKEN = [
    "tell a in 1; out 0", "tell abcdefgh in 3; and 0 1; sub 3 2; out 4", "tell sum in 1; out 0", "forget sum", "back",
    "show sum", "names", "kinds", "worth x 60 1152921504606846975", "worth sum 8 250 10", "worth less 1 0 1 1",
    "alike x long", "alike sum mix", "turned x", "turned eight", "most x neg", "most sum sum", "states less",
    "agree sum mix 8", "agree x neg 60", "mend long", "put both sum neg x", "put x sum x long", "put sum less sum mix sum",
]


class Model:
    """The same desk by a book and the functions, with the refusals in their order."""

    def __init__(self):
        self.book = Book()

    def refuse(self, refusal, due):
        if due:
            raise refusal("due")

    def rows_of(self, names):
        for name in names:
            self.refuse(NoName, name not in self.book.names())
        return [self.book.row(name) for name in names]

    def say(self, text):
        self.refuse(NoRow, not isinstance(text, str) or not any(re.fullmatch(form, text) for form in FORMS))
        first, *rest = text.split(" ")
        return getattr(self, first)(*rest)

    def tell(self, name, *words):
        self.book.tell(name, read_row(" ".join(words)))
        return "ok"

    def forget(self, name):
        self.rows_of([name])
        self.book.forget(name)
        return "ok"

    def back(self):
        self.book.back()
        return "ok"

    def show(self, name):
        return show_row(*self.rows_of([name]))

    def names(self):
        return " ".join(self.book.names()) if self.book.names() else "none"

    def kinds(self):
        return ", ".join(" ".join(kind) for kind in self.book.kinds()) if self.book.kinds() else "none"

    def worth(self, name, width, *words):
        row, = self.rows_of([name])
        self.refuse(NoRow, len(words) != row[0] or any(int(word) >= 2 ** int(width) for word in words))
        return str(worth(row, int(width), [int(word) for word in words]))

    def alike(self, *names):
        told = alike(*self.rows_of(names))
        return "alike" if told[0] == "alike" else f"apart {told[1]}"

    def turned(self, name):
        told = turned(*self.rows_of([name]))
        return "turned" if told[0] == "turned" else f"meet {told[1]}"

    def most(self, *names):
        told = at_most(*self.rows_of(names))
        return "most" if told[0] == "most" else f"greater {told[1]}"

    def states(self, name):
        return str(len(least_machine(*self.rows_of([name]))))

    def agree(self, one, other, width):
        return str(how_often(*self.rows_of([one, other]), int(width)))

    def mend(self, name):
        row, = self.rows_of([name])
        chain = mended(row)
        return show_row(chain[-1][2] if chain else row)

    def put(self, name, *names):
        row, *rows = self.rows_of(names)
        self.book.tell(name, put_together(row, rows))
        return "ok"


class Desks(Asked):
    def desk(self, *texts):
        desk = Desk()
        for text in texts:
            self.assertEqual(self.asked(desk.say, text), "ok")
        return desk

    def told(self, desk, text, answer):
        result = self.asked(desk.say, text)
        self.assertIs(type(result), str)
        self.assertEqual(result, answer, text)

    def look(self, desk):
        """All that can be asked of a desk's book, with all that can be undone."""
        desk, looks = copy.deepcopy(desk), []
        while True:
            names = [] if desk.say("names") == "none" else desk.say("names").split(" ")
            looks.append((names, [desk.say(f"show {name}") for name in names], desk.say("kinds")))
            try:
                desk.say("back")
            except Nothing:
                return looks

    def refuses(self, desk, refusal, *texts):
        """The desk refuses each of these with this very class, and stays as it is."""
        before = self.look(desk)
        for text in texts:
            with self.subTest(text=text):
                self.refused(refusal, desk.say, text)
        self.assertEqual(self.look(desk), before)

    def test_an_empty_desk(self):
        desk = Desk()
        self.told(desk, "names", "none")
        self.told(desk, "kinds", "none")
        self.refuses(desk, Nothing, "back")
        self.refuses(desk, NoName, "show a", "forget a", "mend a", "states a", "turned a", "worth a 8 1", "alike a a",
                     "most a b", "agree a b 8", "put a b c")

    def test_tell_and_show(self):
        desk = self.desk("tell a in 1; out 0", "tell abcdefgh in 2; add 0 1; not 2; out 3")
        self.told(desk, "show a", "in 1; out 0")
        self.told(desk, "show abcdefgh", "in 2; add 0 1; not 2; out 3")
        self.told(desk, "tell a in 3; all; out 3", "ok")
        self.told(desk, "show a", "in 3; all; out 3")
        for row in some_rows(191, 60):
            self.told(desk, f"tell row {show_row(row)}", "ok")
            self.told(desk, "show row", show_row(row))

    def test_forget_and_back(self):
        desk = self.desk("tell a in 1; out 0", "tell b in 2; out 1", "tell a in 3; out 2", "forget b")
        self.told(desk, "names", "a")
        self.refuses(desk, NoName, "show b", "forget b")
        self.told(desk, "back", "ok")
        self.told(desk, "show b", "in 2; out 1")
        self.told(desk, "show a", "in 3; out 2")
        self.told(desk, "back", "ok")
        self.told(desk, "show a", "in 1; out 0")
        self.told(desk, "back", "ok")
        self.told(desk, "names", "a")
        self.told(desk, "back", "ok")
        self.told(desk, "names", "none")
        self.refuses(desk, Nothing, "back")

    def test_names_and_kinds(self):
        desk = self.desk("tell b in 1; out 0", "tell a in 1; not 0; out 1", "tell none in 1; and 0 0; out 1")
        self.told(desk, "names", "a b none")
        self.told(desk, "kinds", "a, b none")
        self.told(desk, "tell c in 2; out 0", "ok")
        self.told(desk, "tell d in 1; all; xor 0 1; out 2", "ok")
        self.told(desk, "names", "a b c d none")
        self.told(desk, "kinds", "a d, b none, c")

    def test_worth(self):
        desk = self.desk(*FILLED)
        self.told(desk, "worth sum 8 250 10", "4")
        self.told(desk, "worth sum 9 250 10", "260")
        self.told(desk, "worth sum 1 1 1", "0")
        self.told(desk, "worth x 1 0", "0")
        self.told(desk, "worth x 60 1152921504606846975", "1152921504606846975")
        self.told(desk, "worth neg 60 1", "1152921504606846975")
        self.told(desk, "worth less 4 3 5 1", "15")
        self.told(desk, "worth less 10 0 0 0", "0")

    def test_words_too_few_too_many_or_too_great(self):
        desk = self.desk(*FILLED)
        self.refuses(desk, NoRow, "worth sum 8 1", "worth sum 8 1 2 3", "worth sum 8 256 0", "worth sum 8 0 256",
                     "worth sum 1 2 0", "worth sum 1 0 2", "worth x 60 1152921504606846976", "worth x 8 1 1",
                     "worth x 1 9999999999999999999", "worth x 60 9999999999999999999", "worth less 3 1 2",
                     "worth less 3 1 2 8", "worth less 3 8 1 1", "worth less 3 1 8 1", "worth less 3 1 1 1 1")
        self.refuses(desk, NoName, "worth no 8 256", "worth no 1 1 1 1 1", "worth no 60 9999999999999999999")

    def test_alike_turned_and_most(self):
        desk = self.desk(*FILLED)
        self.told(desk, "alike x long", "alike")
        self.told(desk, "alike x x", "alike")
        self.told(desk, "alike sum mix", "apart 2")
        self.told(desk, "alike x neg", "apart 2")
        self.told(desk, "alike x eight", "apart 1")
        self.told(desk, "turned x", "turned")
        self.told(desk, "turned neg", "turned")
        self.told(desk, "turned eight", "meet 1")
        self.told(desk, "tell low in 1; one; twice 1; twice 2; or 0 3; out 4", "ok")
        self.told(desk, "turned low", "meet 3")
        self.told(desk, "most x long", "most")
        self.told(desk, "most x low", "most")
        self.told(desk, "most low x", "greater 3")
        self.told(desk, "most x eight", "greater 1")
        self.told(desk, "most sum mix", "greater 2")
        self.told(desk, "tell nil in 1; none; out 1", "ok")
        self.told(desk, "most eight nil", "greater 9")
        self.told(desk, "most nil eight", "most")
        self.told(desk, "alike nil eight", "apart 9")

    def test_states_agree_and_mend(self):
        desk = self.desk(*FILLED)
        self.told(desk, "states x", "1")
        self.told(desk, "states sum", "2")
        self.told(desk, "states eight", "256")
        self.told(desk, "agree sum mix 8", "8748")
        self.told(desk, "agree sum mix 1", "4")
        self.told(desk, "agree sum sum 60", str(2 ** 120))
        self.told(desk, "agree x long 60", str(2 ** 60))
        self.told(desk, "agree x neg 60", "2")
        self.told(desk, "mend long", "in 1; out 0")
        self.told(desk, "mend sum", "in 2; add 0 1; out 2")
        self.told(desk, "mend x", "in 1; out 0")
        self.told(desk, "show long", "in 1; not 0; not 1; out 2")
        self.told(desk, "tell two in 2; add 0 1; add 1 0; and 2 3; none; out 4", "ok")
        self.told(desk, "mend two", "in 2; add 0 1; out 2")

    def test_put(self):
        desk = self.desk(*FILLED)
        self.told(desk, "put both sum neg x", "ok")
        self.told(desk, "show both", "in 1; neg 0; add 1 0; out 2")
        self.told(desk, "put again neg neg", "ok")
        self.told(desk, "show again", "in 1; neg 0; neg 1; out 2")
        self.told(desk, "put three less sum mix sum", "ok")
        self.told(desk, "show three", "in 2; add 0 1; xor 0 1; add 0 1; sub 2 3; or 5 4; out 6")

    def test_put_by_the_name_of_one_of_the_rows_that_are_put_in(self):
        desk = self.desk(*FILLED)
        self.told(desk, "put sum sum sum mix", "ok")
        self.told(desk, "show sum", "in 2; add 0 1; xor 0 1; add 2 3; out 4")
        self.told(desk, "put mix sum mix mix", "ok")
        self.told(desk, "show mix", "in 2; xor 0 1; xor 0 1; add 2 3; xor 2 3; add 4 5; out 6")
        self.told(desk, "back", "ok")
        self.told(desk, "show mix", "in 2; xor 0 1; out 2")
        self.told(desk, "back", "ok")
        self.told(desk, "show sum", "in 2; add 0 1; out 2")
        self.told(desk, "put x x x", "ok")
        self.told(desk, "put neg neg neg", "ok")
        self.told(desk, "put neg neg neg", "ok")
        self.told(desk, "show neg", "in 1; neg 0; neg 1; neg 2; neg 3; out 4")

    def test_back_behind_tell_forget_and_put(self):
        desk = self.desk(*FILLED)
        whole = self.look(desk)
        for text in ("tell new in 1; out 0", "tell x in 1; out 0", "tell x in 2; out 0", "forget sum", "put new sum x neg",
                     "put sum sum x neg", "put x neg x"):
            self.told(desk, text, "ok")
            self.assertEqual(self.look(desk)[1:], whole)
            self.told(desk, "back", "ok")
            self.assertEqual(self.look(desk), whole)

    def test_asking_keeps_nothing(self):
        desk = self.desk(*FILLED)
        before = self.look(desk)
        for text in TAKEN:
            if text.split(" ")[0] not in ("tell", "forget", "back", "put"):
                self.told(desk, text, desk.say(text))
                self.assertEqual(self.look(desk), before, text)

    def test_none_of_these_rows_by_its_words(self):
        texts = [
            "", " ", "  ", "a", "no", "NAMES", "Names", "name", "kind", "namess", "names ", " names", "names names", "names a",
            "kinds ", "kinds a", "back ", " back", "back a", "back 1", "back back", "backs", "show", "show ", "show  x",
            "show x ", " show x", "show x neg", "shows x", "Show x", "show X", "show x1", "show 1", "show abcdefghi", "show -",
            "forget", "forget ", "forget x neg", "forget X", "forget abcdefghi", "forget x ", "tell", "tell x", "tell x ",
            "tell  in 1; out 0", "tell x  in 1; out 0", "tell x in 1; out 0 ", "tell x in 1;  out 0", " tell x in 1; out 0",
            "tell X in 1; out 0", "tell abcdefghi in 1; out 0", "tell x1 in 1; out 0", "tell 1 in 1; out 0", "Tell x in 1; out 0",
            "tell in 1; out ", "turned", "turned x x", "turned X", "turned x ", "turn x", "states", "states x x", "states 1",
            "mend", "mend x x", "mend x ", "mend X", "mended x", "alike", "alike x", "alike x long x", "alike x  long",
            "alike X long", "alike x Long", "alike x long ", "alike x 1", "most", "most x", "most x long x", "most x x1",
            "agree x neg", "agree x 8", "agree x neg 8 8", "agree x neg long", "agree x neg 8 ", "agree 8 x neg", "agree",
            "put", "put x", "put x neg", "put x neg ", "put x neg X", "put x neg 1", "put X neg x", "put x Neg x", "put x neg  x",
            "put x neg x abcdefghi", "put x neg x x1", "worth", "worth x", "worth x 8", "worth x 8 ", "worth 8 x 1",
            "worth x 8 x", "worth x  8 1", "worth x 8  1", "worth x 8 1 ", "worth X 8 1", "worth x 8 -1", "worth x 8 +1",
            "worth x 8 1_0", "worth x 8 01", "worth x 8 00", "worth x 8 1.0", "worth x 8 0x1", "worth x 8 1 01", "worth x 8 1,",
            "worth x 8 12345678901234567890", "worth x 8 00000000000000000001", "worth x 8 10000000000000000000",
            "worth x 60 " + "9" * 20, "worth x 60 " + "9" * 3900, "worth x " + "9" * 3900 + " 1", "x", "x names", "in 1; out 0",
            "none", "ok", "greatest x 8", "least x 8", "ahead x neg 8", "names\n", "names\t", "\nnames", "names\tx", "show\tx",
            "show x\n", "show\nx", "worth\tx 8 1", "worth x 8 1\n", "worth x 8 1\t1", "worth x 8\n1", "worth x \u0668 1",
            "worth x 8 \u0661", "worth x 8 \u00b9", "show \u00e4", "tell \u00e4 in 1; out 0", "show\u00a0x", "names\u00a0",
        ]
        for width in ("0", "61", "100", "-1", "+8", "08", "060", "00", "8.", "8.0", "1_0", "eight", "9" * 19, "9" * 20, "8,"):
            texts += [f"worth x {width} 0", f"worth no {width} 0", f"agree x neg {width}", f"agree no none {width}"]
        for name in ("X", "x1", "abcdefghi", "x_", "-", ";", "x;", "0"):
            texts += [form.replace("*", name) for form in (
                "forget *", "show *", "turned *", "states *", "mend *", "alike * x", "alike x *", "alike no *", "most * x",
                "most x *", "most no *", "agree * x 8", "agree x * 8", "agree no * 8", "worth * 8 1", "put * sum x x",
                "put x * x x", "put x sum * x", "put x sum x *", "put x no *", "tell * in 1; out 0", "tell * no",
            )]
        things = [None, 0, 1, True, False, (), ("names",), [], ["names"], ["show", "x"], {}, {"names": 1}, b"names", 10 ** 59]
        for text in texts:
            self.assertFalse(any(re.fullmatch(form, text) for form in FORMS), text)
        self.refuses(self.desk(*FILLED), NoRow, *texts, *things)
        self.refuses(Desk(), NoRow, *texts, *things)

    def test_a_word_left_out_put_in_or_told_twice(self):
        desk = self.desk(*FILLED)
        counted = 0
        for text in TAKEN:
            words = text.split(" ")
            others = [" ".join(words[:at] + words[at + 1:]) for at in range(len(words))]
            others += [" ".join(words[:at + 1] + words[at:]) for at in range(len(words))]
            others += [" ".join(words[:at] + ["A"] + words[at:]) for at in range(len(words) + 1)]
            others += [" ".join(words[:at] + [""] + words[at:]) for at in range(len(words) + 1)]
            wrong = [other for other in others if not any(re.fullmatch(form, other) for form in FORMS)]
            self.refuses(desk, NoRow, *wrong)
            counted += len(wrong)
        self.assertGreater(counted, 200)

    def test_no_name_of_a_name_that_is_not_kept(self):
        self.refuses(
            self.desk(*FILLED), NoName, "show no", "forget no", "turned no", "states no", "mend no", "alike no x", "alike x no",
            "alike no no", "most no x", "most x no", "agree no x 8", "agree x no 8", "worth no 8 1", "put x no x", "put x x no",
            "put no no no", "put no x no", "put x sum x no", "put x sum no x", "put new less x x no",
        )

    def test_no_name_ahead_of_the_others(self):
        desk = self.desk(*FILLED)
        # The rows that are kept would not go together, would be too many, or are of too many inputs.
        self.refuses(desk, NoName, "alike sum no", "alike no sum", "most no less", "agree sum no 8", "worth no 1 2 2 2 2",
                     "put x sum no", "put x sum eight no", "put x sum no no no", "put x x eight eight no", "put x no eight eight")

    def test_no_text(self):
        desk = self.desk(*FILLED)
        self.refuses(desk, NoText, "tell x x", "tell x in", "tell new in 1", "tell new in 1; out 1", "tell new in 4; out 0",
                     "tell new in 1; not 1; out 1", "tell new in 01; out 0", "tell x IN 1; OUT 0", "tell x ; in 1; out 0",
                     "tell x in\t1; out 0", "tell x in 1;\nout 0", "tell x in 1; out 0\n", "tell x \t", "tell x in 1; out 0;",
                     "tell x tell x in 1; out 0", "tell x in 1; " + "none; " * 9 + "out 0", "tell x in 1;out 0", "tell x ~",
                     "tell x in 1; out 99999999999999999999", "tell x in " + "9" * 3900 + "; out 0", "tell x 0", "tell a A")

    def test_no_pair(self):
        desk = self.desk(*FILLED)
        self.refuses(desk, NoPair, "alike x sum", "alike sum less", "most x sum", "most less x", "agree x sum 8",
                     "agree less sum 60", "put x sum x", "put x sum x x x", "put x x x x", "put new sum x mix", "put new less x x sum",
                     "put new less sum sum", "put x eight eight eight", "put x sum eight less", "put new less eight eight sum")

    def test_no_row_of_turned(self):
        self.refuses(self.desk(*FILLED), NoRow, "turned sum", "turned mix", "turned less")

    def test_too_many(self):
        desk = self.desk(*FILLED)
        self.refuses(desk, TooMany, "put x eight neg", "put x neg eight", "put new eight eight", "put new sum eight x",
                     "put eight sum eight eight", "put eight eight neg")
        self.told(desk, "put new eight x", "ok")
        self.told(desk, "put new x eight", "ok")

    def test_nothing(self):
        desk = self.desk(*FILLED)
        for _ in FILLED:
            self.told(desk, "back", "ok")
        self.refuses(desk, Nothing, "back", "back")
        self.told(desk, "names", "none")
        self.told(desk, "tell x in 1; out 0", "ok")
        self.told(desk, "back", "ok")
        self.refuses(desk, Nothing, "back")

    def test_two_desks_side_by_side(self):
        one, other = self.desk("tell a in 1; out 0"), Desk()
        self.told(other, "names", "none")
        self.refuses(other, Nothing, "back")
        self.refuses(other, NoName, "show a")
        self.told(other, "tell a in 2; out 1", "ok")
        self.told(other, "tell b in 2; and 1 1; out 2", "ok")
        self.told(one, "names", "a")
        self.told(one, "show a", "in 1; out 0")
        self.told(one, "back", "ok")
        self.told(one, "names", "none")
        self.told(other, "kinds", "a b")
        self.refuses(one, Nothing, "back")

    def test_long_lives_beside_a_model(self):
        rand = chance(192)
        rows = some_rows(193, 40) + lively_rows(194, 40) + [row for group in GROUPS.values() for row in group]
        rows += [put_alike(rand, row) for row in rows[:60]] + [spelled(1, "not 0"), (1, (), 0), (2, (), 1), (3, (), 2)] * 6
        names = ["a", "b", "c", "d", "e", "f"]
        seen = {}
        for _ in range(25):
            desk, model = Desk(), Model()
            for _ in range(90):
                word = rand.choice([form.split(" ")[0] for form in FORMS] + ["tell"] * 6 + ["put"] * 2)
                some = [rand.choice(names) for _ in range(5)]
                width = rand.choice((0, 1, 2, 3, 8, 59, 60, 61))
                words = [str(rand.randint(0, 2 ** width)) for _ in range(rand.randint(1, 3))]
                rest = {
                    "tell": [some[0], show_row(rand.choice(rows)) if rand.random() < 0.9 else "in 1"], "back": [],
                    "names": [], "kinds": [], "worth": [some[0], str(width), *words], "alike": some[:2], "most": some[:2],
                    "agree": some[:2] + [str(width)], "put": some[:rand.randint(2, 5)],
                }.get(word, some[:1])
                text = " ".join([word, *rest])
                try:
                    expected = model.say(text)
                except WideError as refusal:
                    expected = type(refusal)
                    self.refused(expected, desk.say, text)
                else:
                    self.told(desk, text, expected)
                look = (word, expected if isinstance(expected, type) else "told")
                seen[look] = seen.get(look, 0) + 1
                for text in ("names", "kinds"):
                    self.told(desk, text, model.say(text))
                for name in model.book.names():
                    self.told(desk, f"show {name}", model.say(f"show {name}"))
        for word in ("tell", "forget", "back", "show", "worth", "alike", "turned", "most", "states", "agree", "mend", "put"):
            self.assertGreater(seen[word, "told"], 5, word)
        for look in (("put", NoPair), ("put", TooMany), ("put", NoName), ("put", NoRow), ("tell", NoText), ("alike", NoPair),
                     ("turned", NoRow), ("worth", NoRow), ("back", Nothing), ("forget", NoName), ("agree", NoRow)):
            self.assertGreater(seen[look], 3, look)


if __name__ == "__main__":
    unittest.main()
