"""Numbers of pairs: all pairs within n places in a row, by the rows of their lines, then by how far on a line."""

from turntell.errors import NoNumber, NoPlaces, NoWord
from turntell.ladders import climbed, row_of_strips, strips_of
from turntell.layers import layers_of, line_told, pair_on
from turntell.rows import is_whole
from turntell.turns import given_pair_within

MOST_PLACES = 200
COIN_BY_SIGN = {"h": 1, "t": 0}


def check_numbered(n):
    """Refuse what is no number of places within which pairs are numbered."""
    if not is_whole(n, 1) or n > MOST_PLACES:
        raise NoPlaces("a number of places from 1 to 200 is due")


def check_beginning(n, text):
    """Refuse what tells no first coins of a row within n places."""
    if not isinstance(text, str) or len(text) > n or not all([sign in COIN_BY_SIGN for sign in text]):
        raise NoWord("a text of the signs h and t is due, with a sign for each place at the most")


def pairs_begun(rungs, left):
    """How many pairs lie on the lines of all rows that begin alike, by the ladder of that, with so many places left.

    Heads and tails at the next place together make either number of a ladder twice both; so they are alike from
    there on, and each further place makes them four times as many.
    """
    first, second = rungs
    if left == 0:
        return first
    return (2 * (first + second)) << (2 * (left - 1))


def number_of(n, pair):
    """The number of a pair."""
    check_numbered(n)
    rows = given_pair_within(n, pair)
    row, far = line_told(layers_of(rows, False))
    return pairs_ahead(n, row) + far


def pairs_ahead(n, row):
    """How many pairs lie on the lines ahead of that of a row."""
    many_ahead = 0
    rungs = (1, 1)
    left = n
    for coin, many in strips_of(row, n):
        begun = pairs_begun(rungs, left)
        rungs = climbed(rungs, coin, many)
        left -= many
        # Ahead are the rows that begin alike, but show tails at one of the places at which this one shows heads.
        if coin == 1:
            many_ahead += begun - pairs_begun(rungs, left)
    return many_ahead


def pair_of(n, number):
    """The pair of a number."""
    check_numbered(n)
    if not is_whole(number, 0) or number >= pairs_begun((1, 1), n):
        raise NoNumber("a number less than how many pairs there are is due")
    rungs = (1, 1)
    turns = number
    strips = []
    for left in reversed(range(n)):
        tails = pairs_begun(climbed(rungs, 0, 1), left)
        coin = int(turns >= tails)
        turns -= coin * tails
        rungs = climbed(rungs, coin, 1)
        strips.append((coin, 1))
    return pair_on(row_of_strips(strips), turns)


def many_of(n, text):
    """How many pairs lie on the lines of rows that begin as a text of h and t tells."""
    check_numbered(n)
    check_beginning(n, text)
    rungs = (1, 1)
    for sign in text:
        rungs = climbed(rungs, COIN_BY_SIGN[sign], 1)
    return pairs_begun(rungs, n - len(text))
