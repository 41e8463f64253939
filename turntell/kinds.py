"""Lines within places: turns that count a head more of the one, of the other one or of both, within n places.

A kind (r, s) tells how many heads more are counted: r of the other one when the one turns, s of the one when the
other one turns. A turn that so comes to place 0 or beyond the last place rests.
"""

from turntell.errors import NoKind, NoPlaces, NoRow, NoTurns
from turntell.ladders import rungs_within
from turntell.layers import layers_within, line_told, pair_on_within, pairs_on
from turntell.rows import about, count_heads, flipped, given_row, is_whole, last_of
from turntell.turns import check_turns, check_who, given_pair_within


def check_within(n):
    """Refuse what is no number of places to turn coins within."""
    if not is_whole(n, 1):
        raise NoPlaces("a number of places from 1 on is due")


def given_kind(kind):
    """A kind that is handed in, as a tuple; what is none is refused."""
    if not isinstance(kind, (list, tuple)) or len(kind) != 2:
        raise NoKind("a kind is a tuple of two numbers")
    r, s = kind
    for more in (r, s):
        if not is_whole(more, 0) or more > 1:
            raise NoKind("each number of a kind is 0 or 1")
    return r, s


def given_row_within(n, row):
    """A copy of a row that is handed in; one beyond n places is refused like what is no row."""
    stretches = given_row(row)
    if last_of(stretches) > n:
        raise NoRow("a row within the places is due")
    return stretches


def turn_within(n, kind, pair, who):
    """The pair behind a turn of a kind within n places."""
    check_within(n)
    r, s = given_kind(kind)
    one, other = given_pair_within(n, pair)
    check_who(who)
    if who == "one":
        return flipped(one, place_within(n, count_heads(other) + r)), other
    return one, flipped(other, place_within(n, count_heads(one) + s))


def place_within(n, place):
    """The place of which a turn turns the coin over: 0, so none, in place of one beyond n."""
    return place if place <= n else 0


def ends_within(n, kind, row):
    """The first and the last pair of the line of a row."""
    check_within(n)
    given = given_kind(kind)
    stretches = given_row_within(n, row)
    # Each list is made anew where it stands: no two of those told are one.
    ends = {
        (0, 0): ((stretches, []), ([], list(stretches))),
        (0, 1): ((stretches, []), ([(1, n)], about(stretches, n))),
        (1, 0): (([], stretches), (about(stretches, n), [(1, n)])),
        (1, 1): ((about(stretches, n), [(1, n)]), ([(1, n)], about(stretches, n))),
    }
    return ends[given]


def pairs_within(n, kind, row):
    """How many pairs the line of a row has."""
    check_within(n)
    given = given_kind(kind)
    return pairs_on(given, rungs_within(given_row_within(n, row), n))


def line_within(n, kind, pair):
    """The row of a pair's line, and behind how many turns from the first end the pair is come by."""
    check_within(n)
    given = given_kind(kind)
    rows = given_pair_within(n, pair)
    return line_told(layers_within(n, given, rows, True))


def pair_within(n, kind, row, turns):
    """The pair behind so many turns on the line of a row."""
    check_within(n)
    given = given_kind(kind)
    stretches = given_row_within(n, row)
    check_turns(turns)
    if turns >= pairs_on(given, rungs_within(stretches, n)):
        raise NoTurns("the line ends ahead of so many turns")
    return pair_on_within(n, given, stretches, turns)
