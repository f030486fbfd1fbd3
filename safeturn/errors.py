"""The refusals: each stands under TurnError, none under another."""


class TurnError(ValueError):
    """Any refusal of a change."""


class NoPlace(TurnError):
    """A place, or a function's number, that the program doesn't have."""


class NoName(TurnError):
    """A name that doesn't stand where it should, or a text that is no name."""


class Taken(TurnError):
    """A function has the name already."""


class NoCall(TurnError):
    """The row is no call of a function ahead."""


class Unlike(TurnError):
    """Turned round, the change would give another program."""


class Clash(TurnError):
    """Two places, `one` and `other`, that keep a change from meaning the same."""

    def __init__(self, one, other):
        TurnError.__init__(self, f"the places {one} and {other} clash")
        self.one = one
        self.other = other
