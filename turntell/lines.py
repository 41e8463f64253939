"""Lines: on which one a pair is, how far, and how two pairs of one line lie to one another.

The functions placed and leads_on serve the other files, too; they are for pairs that given_pair has let pass.
"""

from turntell.errors import TooLong
from turntell.layers import layers_of, line_told
from turntell.rows import added, count_heads
from turntell.turns import SIGN_BY_WHO, given_pair, not_who

MOST_SIGNS = 1000


def placed(pair):
    """The row of a pair's line, and behind how many turns the pair is come by; TooMany where that row is long."""
    return line_told(layers_of(pair, True))


def leads_on(far):
    """Who leads on from a pair that is so far on its line."""
    return "one" if far & 1 else "other"


def line_of(pair):
    """The row of a pair's line."""
    row, _ = placed(given_pair(pair))
    return row


def how_far(pair):
    """Behind how many turns a pair is come by on its line."""
    _, far = placed(given_pair(pair))
    return far


def ahead(pair, other):
    """By how many turns the other pair lies ahead of a pair, None where it is on another line."""
    here, there = placed_both(pair, other)
    return there[1] - here[1] if here[0] == there[0] else None


def placed_both(pair, other):
    """Where two pairs that are handed in lie."""
    first, second = given_pair(pair), given_pair(other)
    return placed(first), placed(second)


def word_between(pair, other):
    """The shortest word that leads from a pair to the other one, None where they are on unlike lines."""
    here, there = placed_both(pair, other)
    if here[0] != there[0]:
        return None
    many = abs(there[1] - here[1])
    if many > MOST_SIGNS:
        raise TooLong(many)
    on = leads_on(here[1])
    who = on if there[1] > here[1] else not_who(on)
    signs = SIGN_BY_WHO[who] + SIGN_BY_WHO[not_who(who)]
    return (signs * many)[:many]


def sum_kept(pair):
    """The places of the row of a pair's line added, told by the pair itself."""
    one, other = given_pair(pair)
    return added(one) + added(other) - count_heads(one) * count_heads(other)
