"""Far turns: the pair behind any number of turns, and the turns behind which a pair is come by.

Turns by turns go round: to the end of a line, a rest there, back, a rest at the other end. A pair's spot in the
round is how far it is where the next turn leads on; where it leads back, it is counted on from the rest at the
end. So each turn, a rest as well, is one spot on, and there are twice as many spots as pairs.
"""

from turntell.errors import NoTurns
from turntell.ladders import way_up
from turntell.layers import pair_on
from turntell.lines import leads_on, placed
from turntell.rows import given_row
from turntell.turns import check_turns, check_who, given_pair


def spot_of(far, who, pairs):
    """The spot in the round of a pair so far on its line, when who is told turns next."""
    return far if leads_on(far) == who else 2 * pairs - 1 - far


def pair_at(row, turns):
    """The pair behind so many turns on the line of a row."""
    stretches = given_row(row)
    check_turns(turns)
    if turns > way_up(stretches):
        raise NoTurns("the line ends ahead of so many turns")
    return pair_on(stretches, turns)


def pair_behind(pair, who, turns):
    """The pair behind so many turns by turns, who is told turning first."""
    rows = given_pair(pair)
    check_who(who)
    check_turns(turns)
    row, far = placed(rows)
    pairs = way_up(row) + 1
    spot = (spot_of(far, who, pairs) + turns) % (2 * pairs)
    return pair_on(row, min(spot, 2 * pairs - 1 - spot))


def round_of(pair):
    """Behind how many turns by turns a pair comes again, at the same one's turn."""
    row, _ = placed(given_pair(pair))
    return 2 * (way_up(row) + 1)


def first_time(pair, who, other):
    """The least number of turns by turns behind which a pair becomes the other one, None where it never does."""
    rows = given_pair(pair)
    check_who(who)
    others = given_pair(other)
    row, far = placed(rows)
    line, due = placed(others)
    if row != line:
        return None
    pairs = way_up(row) + 1
    spot = spot_of(far, who, pairs)
    return min([(there - spot) % (2 * pairs) for there in (due, 2 * pairs - 1 - due)])


def until_rest(pair, who):
    """How many turns by turns go by ahead of the first one that rests."""
    rows = given_pair(pair)
    check_who(who)
    row, far = placed(rows)
    pairs = way_up(row) + 1
    return pairs - 1 - spot_of(far, who, pairs) % pairs
