"""The refusals: each stands straight under TurnError, none under another one."""


class TurnError(ValueError):
    """Any refusal."""


class NoRow(TurnError):
    """No row, where one is due."""


class NoPlace(TurnError):
    """No place, or no list of unlike places, where one is due."""


class NoNumber(TurnError):
    """No number, or one that is less or more than what is due."""


class NoPlaces(TurnError):
    """No number of places, or too few for a row."""


class NoPair(TurnError):
    """No pair of rows, where one is due."""


class NoWho(TurnError):
    """Neither the one nor the other one."""


class NoWord(TurnError):
    """No word, where one is due."""


class NoTurns(TurnError):
    """No number of turns, where one is due."""


class NoKind(TurnError):
    """No kind, where one is due."""


class NoneYet(TurnError):
    """Nothing is there to be done back or again."""


class TooMany(TurnError):
    """A row that an answer hangs on has too many stretches; the field many tells how many."""

    def __init__(self, many):
        # The words leave the number out: Python refuses to write out a very long one.
        super().__init__("too many stretches")
        self.many = many


class TooLong(TurnError):
    """A word would be too long; the field many tells how many signs it would have."""

    def __init__(self, many):
        super().__init__("too long a word")
        self.many = many


class NoText(TurnError):
    """No such text; the field at tells how many signs of it begin one at the most."""

    def __init__(self, at):
        super().__init__("no such text")
        self.at = at
