"""Ladders: the two numbers that the places of a row make, and the row that two numbers tell.

The functions strips_of, row_of_strips, climbed, rungs_within, way_up and check_stretches serve the other files,
too; but for the last one they check nothing.
A strip is a tuple (coin, many) of like coins side by side, its coin 1 for heads and 0 for tails.
"""

from turntell.errors import NoNumber, TooMany
from turntell.rows import check_places, given_row, is_whole, last_of

MOST_STRETCHES = 50


def strips_of(stretches, n):
    """The strips of a row from place 1 to place n, none of them without coins."""
    strips = []
    free = 1
    for first, last in stretches:
        strips += [(0, first - free), (1, last - first + 1)]
        free = last + 1
    strips.append((0, n + 1 - free))
    return [strip for strip in strips if strip[1] > 0]


def row_of_strips(strips):
    """The row that strips make from place 1 on; they may be like their neighbours, or without coins."""
    stretches = []
    place = 0
    for coin, many in strips:
        if coin == 1 and many > 0:
            first = place + 1
            if stretches and last_of(stretches) == place:
                first = stretches.pop()[0]
            stretches.append((first, place + many))
        place += many
    return stretches


def climbed(rungs, coin, many):
    """The two numbers of a ladder behind so many more places with like coins."""
    first, second = rungs
    if coin == 1:
        return first + 2 * many * second, second
    return first, second + 2 * many * first


def rungs_within(stretches, n):
    """The ladder of a row within n places."""
    rungs = (1, 1)
    for coin, many in strips_of(stretches, n):
        rungs = climbed(rungs, coin, many)
    return rungs


def way_up(stretches):
    """The way of a row."""
    return rungs_within(stretches, last_of(stretches))[0] - 1


def check_stretches(many):
    """Refuse a row with too many stretches; the first one beyond the most is where that is seen, so it is told."""
    if many > MOST_STRETCHES:
        raise TooMany(MOST_STRETCHES + 1)


def ladder(row, n):
    """The ladder of a row within n places."""
    stretches = given_row(row)
    check_places(n, stretches)
    return rungs_within(stretches, n)


def way_of(row):
    """The way of a row: how many turns its line is long."""
    return way_up(given_row(row))


def row_by(one, other):
    """The row, and the number of places, whose ladder two numbers are; None where they are of none."""
    for number in (one, other):
        if not is_whole(number, 1):
            raise NoNumber("a whole number from 1 on is due")
    strips = strips_by(one, other)
    if strips is None:
        return None
    row = row_of_strips(strips)
    check_stretches(len(row))
    return row, sum([many for _, many in strips])


def strips_by(one, other):
    """The strips whose ladder two numbers are, None where they are of none: the ladder is climbed down.

    The greater number grew last. It keeps more than nothing, so a last strip is told by how often twice the
    lesser one goes into one less than the greater; where it does not go, there is no way down.
    """
    first, second = one, other
    strips = []
    while first != second:
        if first > second:
            many = (first - 1) // (2 * second)
            first -= 2 * many * second
            strips.append((1, many))
        else:
            many = (second - 1) // (2 * first)
            second -= 2 * many * first
            strips.append((0, many))
        if many == 0:
            return None
    return strips[::-1] if first == 1 else None
