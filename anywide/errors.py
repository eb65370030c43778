"""The refusals: each one is made of a text."""


class WideError(ValueError):
    """Any refusal."""


class NoRow(WideError):
    """What is no row, or none that is fit for what is asked."""


class NoPair(WideError):
    """Rows that do not go together."""


class NoRule(WideError):
    """A rule that does not fit at a value."""


class NoName(WideError):
    """What is no name, or a name that is not kept."""


class NoText(WideError):
    """What is no text of a row."""


class TooMany(WideError):
    """More deeds than a row can have."""


class Nothing(WideError):
    """Nothing is there to be undone."""
