"""One row alone, which turns over that of its coins whose place is how many heads it shows.

The pair of a row and itself lies halfway on the line of the row that tells the runs, so runs are told by the
pair's layers; and as a turn makes the least run one less, turns are counted off the runs.
"""

from math import isqrt

from turntell.ladders import way_up
from turntell.layers import layers_of, line_told, pair_on
from turntell.rows import added, count_heads, flipped, given_row, last_of
from turntell.turns import check_many, check_turns


def step(row):
    """The row behind a turn."""
    return stepped(given_row(row))


def stepped(stretches):
    """New stretches, behind a turn."""
    return flipped(stretches, count_heads(stretches))


def steps(row, *, many=10):
    """The row itself and the rows behind each of so many turns."""
    now = given_row(row)
    check_many(many)
    rows = [now]
    for _ in range(many):
        now = stepped(now)
        rows.append(now)
    return rows


def comers(row):
    """All rows that come to a row by a turn that is no rest, sorted."""
    stretches = given_row(row)
    many = count_heads(stretches)
    # A turn changes the number of heads by one: so a row that comes here shows one less or one more.
    found = [(place, flipped(stretches, place)) for place in (many - 1, many + 1) if place > 0]
    return sorted([came for place, came in found if count_heads(came) == place])


def runs(row):
    """The runs of a row, as a row."""
    return runs_told(given_row(row))


def runs_told(stretches):
    """The runs of stretches, as a row, however many stretches that has."""
    told, _ = line_told(layers_of((stretches, stretches), False))
    return told


def row_with(row):
    """The row whose runs a row tells."""
    one, _ = pair_halfway(given_row(row))
    return one


def pair_halfway(stretches):
    """The pair behind half of a row's way."""
    return pair_on(stretches, way_up(stretches) // 2)


def halfway(row):
    """The pair behind half of a row's way: two rows alike."""
    return pair_halfway(given_row(row))


def turns_alone(row):
    """How many turns it is from a row to the row without heads."""
    many = count_heads(given_row(row))
    return 2 * added(row) - many * many


def alone_behind(row, turns):
    """The row behind so many turns."""
    stretches = given_row(row)
    check_turns(turns)
    one, _ = pair_halfway(runs_behind(runs_told(stretches), turns))
    return one


def runs_behind(told, turns):
    """The runs that are left behind so many turns, each of which makes the least one one less."""
    left = list(told)
    owed = turns
    while left and added(left[:1]) <= owed:
        owed -= added(left[:1])
        left = left[1:]
    if not left:
        return []
    first, last = left[0]
    whole = whole_runs(first, owed)
    least = first + whole
    owed -= whole * (first + least - 1) // 2
    rest = [(least + 1, last)] if least < last else []
    return flipped(rest + left[1:], least - owed)


def whole_runs(first, turns):
    """How many runs, each one more than the one ahead of it, go by whole within so many turns."""
    # That many runs, many * (2 * first - 1 + many) / 2 turns, solved for many.
    twice = 2 * first - 1
    return (isqrt(twice * twice + 8 * turns) - twice) // 2


def meeting(row, other):
    """The first row that both of two rows come to, and behind how many turns of each."""
    stretches, others = given_row(row), given_row(other)
    one, _ = pair_halfway(runs_met(runs_told(stretches), runs_told(others)))
    left = turns_alone(one)
    return one, turns_alone(row) - left, turns_alone(other) - left


def runs_met(told, others):
    """The runs of the first row that two rows, told by their runs, both come to.

    The greatest runs that both have stay; of the greatest ones that are unlike, the greater one comes down to the
    lesser one when all that are less are gone from both.
    """
    ones, twos = list(told), list(others)
    shared = []
    while ones and last_of(ones) == last_of(twos):
        low, last = max(ones[-1][0], twos[-1][0]), last_of(ones)
        shared.append((low, last))
        ones, twos = below(ones, low), below(twos, low)
    return flipped(shared[::-1], min(last_of(ones), last_of(twos)))


def below(stretches, place):
    """What there is of stretches below a place."""
    return [(first, min(last, place - 1)) for first, last in stretches if first < place]
