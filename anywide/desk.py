"""A desk that keeps a book, is told rows of words and answers with texts."""

from anywide.alike import alike
from anywide.atmost import at_most
from anywide.book import Book, is_name
from anywide.counts import how_often
from anywide.errors import NoRow
from anywide.joining import put_together
from anywide.machines import least_machine
from anywide.mending import mended
from anywide.rows import worth
from anywide.texts import read_number, read_row, show_row
from anywide.turning import turned

WIDEST = 60

# For each first word what stands behind it. What ends in S, and TEXT, is one word or more.
FORMS = {
    "tell": "NAME TEXT", "forget": "NAME", "back": "", "show": "NAME", "names": "", "kinds": "",
    "worth": "NAME WIDTH WORDS", "alike": "NAME NAME", "turned": "NAME", "most": "NAME NAME", "states": "NAME",
    "agree": "NAME NAME WIDTH", "mend": "NAME", "put": "NAME NAME NAMES",
}
SEVERAL = ("TEXT", "WORDS", "NAMES")


def is_width(word):
    """Whether a word tells a width."""
    number = read_number(word)
    return number is not None and 1 <= number <= WIDEST


def is_in_place(word, place):
    """Whether a word can stand at a place of a form."""
    if place == "NAME" or place == "NAMES":
        return is_name(word)
    if place == "WIDTH":
        return is_width(word)
    if place == "WORDS":
        return read_number(word) is not None
    return True


def is_of_form(words, form):
    """Whether words, each of one sign or more, stand as a form has them."""
    places = form.split()
    if places and places[-1] in SEVERAL:
        places = places + [places[-1]] * (len(words) - len(places))
    if len(words) != len(places):
        return False
    return all([is_in_place(word, place) for word, place in zip(words, places)])


def words_said(row):
    """The words of what is said, if it is a row of words that a desk takes; all else is refused."""
    if not isinstance(row, str):
        raise NoRow("what is no text is no row of words")
    words = row.split(" ")
    if "" in words or words[0] not in FORMS or not is_of_form(words[1:], FORMS[words[0]]):
        raise NoRow("by its words it is none of the rows that a desk takes")
    return words


def with_width(told):
    """What is told of all widths, as a text: its first word, and the width where it is told of one."""
    # Where it holds at every width a list stands behind the word, and nothing else.
    if len(told) == 2:
        return told[0]
    return f"{told[0]} {told[1]}"


def answer_tell(book, words):
    book.tell(words[0], read_row(" ".join(words[1:])))
    return "ok"


def answer_forget(book, words):
    book.forget(words[0])
    return "ok"


def answer_back(book, words):
    book.back()
    return "ok"


def answer_show(book, words):
    return show_row(book.row(words[0]))


def answer_names(book, words):
    return " ".join(book.names()) or "none"


def answer_kinds(book, words):
    return ", ".join([" ".join(kind) for kind in book.kinds()]) or "none"


def answer_worth(book, words):
    row = book.row(words[0])
    width = int(words[1])
    numbers = [int(word) for word in words[2:]]
    if len(numbers) != row[0] or max(numbers) >> width != 0:
        raise NoRow(f"{row[0]} words of the width {width} are asked for")
    return str(worth(row, width, numbers))


def answer_alike(book, words):
    return with_width(alike(book.row(words[0]), book.row(words[1])))


def answer_turned(book, words):
    return with_width(turned(book.row(words[0])))


def answer_most(book, words):
    return with_width(at_most(book.row(words[0]), book.row(words[1])))


def answer_states(book, words):
    return str(len(least_machine(book.row(words[0]))))


def answer_agree(book, words):
    return str(how_often(book.row(words[0]), book.row(words[1]), int(words[2])))


def answer_mend(book, words):
    row = book.row(words[0])
    rows = [row] + [step[2] for step in mended(row)]
    return show_row(rows[-1])


def answer_put(book, words):
    row, *rows = [book.row(name) for name in words[1:]]
    book.tell(words[0], put_together(row, rows))
    return "ok"


ANSWERS = {
    "tell": answer_tell, "forget": answer_forget, "back": answer_back, "show": answer_show, "names": answer_names,
    "kinds": answer_kinds, "worth": answer_worth, "alike": answer_alike, "turned": answer_turned,
    "most": answer_most, "states": answer_states, "agree": answer_agree, "mend": answer_mend, "put": answer_put,
}


class Desk:
    """A desk with a book of its own."""

    def __init__(self):
        self.book = Book()

    def say(self, row):
        """The answer to a row of words: a text."""
        words = words_said(row)
        answer = ANSWERS[words[0]]
        return answer(self.book, words[1:])
