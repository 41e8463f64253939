"""Tables: a pair, and the deeds that led to it, which can be done back and again."""

from turntell.errors import NoneYet
from turntell.far import pair_behind
from turntell.lines import how_far, line_of
from turntell.rows import check_place, flipped
from turntell.turns import check_who, given_pair, turn


def with_coin_turned(pair, who, place):
    """The pair with the coin of a place of the one or the other turned over."""
    check_who(who)
    check_place(place, 1)
    one, other = pair
    if who == "one":
        return flipped(one, place), other
    return one, flipped(other, place)


def told_deed(deed):
    """A deed as it is told: a pair in it is the asker's own."""
    if deed[0] == "set_to":
        return "set_to", given_pair(deed[1])
    return deed


class Table:
    """A pair, and the deeds that led to it.

    Each deed is kept beside the pair behind it, so that it is done back and again without being done anew. What is
    kept is never changed, so a twin may hold the same.
    """

    def __init__(self, pair=None):
        self._first = ([], []) if pair is None else given_pair(pair)
        self._stand = []
        self._undone = []

    def __eq__(self, other):
        return isinstance(other, Table) and self._now() == other._now()

    def __len__(self):
        return len(self._stand)

    def _now(self):
        """The pair as it is kept."""
        return self._stand[-1][1] if self._stand else self._first

    def _do(self, deed, behind):
        """Let a deed stand, which leads to a pair."""
        self._stand.append((deed, behind))
        self._undone = []

    def turned(self, who):
        """Do a turn."""
        self._do(("turned", who), turn(self._now(), who))

    def gone(self, who, turns):
        """Do so many turns by turns, who is told turning first."""
        self._do(("gone", who, turns), pair_behind(self._now(), who, turns))

    def by_hand(self, who, place):
        """Turn over the coin of a place of the one or the other."""
        self._do(("by_hand", who, place), with_coin_turned(self._now(), who, place))

    def set_to(self, pair):
        """Set the rows to those of a pair."""
        rows = given_pair(pair)
        self._do(("set_to", rows), rows)

    def back(self):
        """Do the last deed back."""
        if not self._stand:
            raise NoneYet("no deed stands")
        self._undone.append(self._stand.pop())

    def again(self):
        """Do the deed again that was done back last."""
        if not self._undone:
            raise NoneYet("no deed was done back since the last one was done")
        self._stand.append(self._undone.pop())

    def pair(self):
        """The pair."""
        return given_pair(self._now())

    def line(self):
        """The row of the pair's line."""
        return line_of(self._now())

    def far(self):
        """Behind how many turns the pair is come by on its line."""
        return how_far(self._now())

    def deeds(self):
        """The deeds that stand."""
        return [told_deed(deed) for deed, _ in self._stand]

    def lines(self):
        """The lines come by: of the pair at first, and of each deed that led to another line, by its number."""
        told = [(0, line_of(self._first))]
        for number, (_, behind) in enumerate(self._stand, start=1):
            row = line_of(behind)
            if row != told[-1][1]:
                told.append((number, row))
        return told

    def twin(self):
        """A Table that has all that this one has."""
        other = Table(self._first)
        other._stand = list(self._stand)
        other._undone = list(self._undone)
        return other
