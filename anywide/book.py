"""A book that keeps rows by names, and knows which of them are alike."""

from anywide.errors import NoName, Nothing, NoRow
from anywide.machines import least_machine
from anywide.rows import is_row

LETTERS = "abcdefghijklmnopqrstuvwxyz"
LONGEST_NAME = 8


def is_name(thing):
    """Whether thing, which may be anything, is a name."""
    if not isinstance(thing, str) or not 1 <= len(thing) <= LONGEST_NAME:
        return False
    return all([sign in LETTERS for sign in thing])


def check_name(thing):
    """Refuses what is no name."""
    if not is_name(thing):
        raise NoName("a name is one to eight small letters")


def look_of(row):
    """What is one for alike rows and another one for all others: how many inputs, and the least machine."""
    return (row[0], tuple([tuple(state) for state in least_machine(row)]))


class Book:
    """Rows by names. What was told and forgotten can be undone, step by step."""

    def __init__(self):
        self.kept = {}
        # For each step that is not undone its name, and the row that the name had ahead of it, or None.
        self.done = []
        self.looks = {}

    def check_kept(self, name):
        """Refuses what is no name, or a name that is not kept."""
        check_name(name)
        if name not in self.kept:
            raise NoName(f"{name} is not kept")

    def tell(self, name, row):
        """Keeps a row by a name, instead of what the name had."""
        check_name(name)
        if not is_row(row):
            raise NoRow("what is no row is not kept")
        self.done.append((name, self.kept.get(name)))
        self.kept[name] = row

    def forget(self, name):
        """Takes a name out."""
        self.check_kept(name)
        self.done.append((name, self.kept[name]))
        del self.kept[name]

    def back(self):
        """Undoes the last tell or forget that is not undone."""
        if not self.done:
            raise Nothing("nothing is left to be undone")
        name, row = self.done.pop()
        if row is None:
            del self.kept[name]
        else:
            self.kept[name] = row

    def row(self, name):
        """The row that a name has."""
        self.check_kept(name)
        return self.kept[name]

    def names(self):
        """All names, sorted: a new list."""
        return sorted(self.kept)

    def kinds(self):
        """The names in lists of those whose rows are alike, each sorted, and all sorted: a new list of new lists."""
        # Looks of rows that are still kept are not worked out again.
        self.looks = {row: self.looks.get(row) or look_of(row) for row in self.kept.values()}
        groups = {}
        for name in self.names():
            look = self.looks[self.kept[name]]
            groups[look] = groups.get(look, []) + [name]
        return sorted(groups.values())
