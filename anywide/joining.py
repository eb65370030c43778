"""Rows put together to one."""

from anywide.errors import NoPair, TooMany
from anywide.rows import MOST_DEEDS, renumbered


def check_parts(row, rows):
    """Refuses other numbers of rows or of inputs, and behind that more deeds than a row can have."""
    if len(rows) != row[0]:
        raise NoPair(f"{len(rows)} rows for {row[0]} inputs")
    for part in rows:
        if part[0] != rows[0][0]:
            raise NoPair(f"rows of {rows[0][0]} and of {part[0]} inputs")
    length = len(row[1]) + sum([len(part[1]) for part in rows])
    if length > MOST_DEEDS:
        raise TooMany(f"{length} deeds, where {MOST_DEEDS} are the most")


def put_behind(many, deeds, row, inputs):
    """The deeds of a row behind others, of so many inputs, and the number of its out.

    inputs are the numbers of the values that stand for the row's own inputs.
    """
    ahead = many + len(deeds)
    numbers = inputs + list(range(ahead, ahead + len(row[1])))
    return (deeds + tuple([renumbered(deed, numbers) for deed in row[1]]), numbers[row[2]])


def put_together(row, rows):
    """The row that tells what the row tells of what the rows tell, one for each of its inputs."""
    check_parts(row, rows)
    many = rows[0][0]
    deeds, outs = (), []
    for part in rows:
        deeds, out = put_behind(many, deeds, part, list(range(many)))
        outs.append(out)
    deeds, out = put_behind(many, deeds, row, outs)
    return (many, deeds, out)
