"""Rows of coins, told as lists of stretches (first, last) of places that show heads.

The functions is_whole, given_row, check_place, check_places, count_heads, last_of and flipped serve the other files;
the last three are for rows that given_row has let pass, and check nothing.
"""

from turntell.errors import NoNumber, NoPlace, NoPlaces, NoRow


def is_whole(thing, least):
    """Whether a thing is a whole number, and not below the least one that is due."""
    return isinstance(thing, int) and not isinstance(thing, bool) and thing >= least


def is_row(thing):
    """Whether anything is a row."""
    if not isinstance(thing, (list, tuple)):
        return False
    free = 1
    for stretch in thing:
        if not is_stretch(stretch, free):
            return False
        free = stretch[1] + 2
    return True


def is_stretch(thing, free):
    """Whether anything is a stretch that begins at the place free or behind it."""
    if not isinstance(thing, (list, tuple)) or len(thing) != 2:
        return False
    first, last = thing
    return is_whole(first, free) and is_whole(last, first)


def given_row(row):
    """A copy of a row that is handed in, as rows are told; what is no row is refused."""
    if not is_row(row):
        raise NoRow("a row is due")
    return [(first, last) for first, last in row]


def check_place(place, least):
    """Refuse what is no place from the least one on."""
    if not is_whole(place, least):
        raise NoPlace("a place is due")


def check_places(n, stretches):
    """Refuse what is no number of places from the last one of stretches on."""
    if not is_whole(n, last_of(stretches)):
        raise NoPlaces("a number of places from the row's last one on is due")


def heads(row):
    """How many heads a row shows."""
    return count_heads(given_row(row))


def count_heads(stretches):
    """How many places there are in stretches."""
    return sum([last - first + 1 for first, last in stretches])


def shows(row, place):
    """Whether a row shows heads at a place."""
    stretches = given_row(row)
    check_place(place, 1)
    return any([first <= place <= last for first, last in stretches])


def heads_to(row, place):
    """How many heads a row shows at the places up to one."""
    stretches = given_row(row)
    check_place(place, 0)
    return count_heads([(first, min(last, place)) for first, last in stretches if first <= place])


def nth(row, number):
    """The place of the so-manieth head of a row."""
    stretches = given_row(row)
    if not is_whole(number, 1):
        raise NoNumber("a whole number from 1 on is due")
    left = number
    for first, last in stretches:
        here = last - first + 1
        if left <= here:
            return first + left - 1
        left -= here
    raise NoNumber("the row shows fewer heads")


def added(row):
    """All places of the heads of a row, added."""
    return sum([(first + last) * (last - first + 1) // 2 for first, last in given_row(row)])


def last_place(row):
    """The last place at which a row shows heads, 0 where there is none."""
    return last_of(given_row(row))


def last_of(stretches):
    """The last place of stretches, 0 where there are none."""
    return stretches[-1][1] if stretches else 0


def turned_over(row, place):
    """The row with the coin of a place turned over; of place 0 the row as it is."""
    stretches = given_row(row)
    check_place(place, 0)
    return flipped(stretches, place)


def flipped(stretches, place):
    """New stretches, with the coin of a place turned over; of place 0 as they are."""
    if place == 0:
        return list(stretches)
    ahead = [stretch for stretch in stretches if stretch[1] < place]
    behind = [stretch for stretch in stretches if stretch[0] > place]
    if len(ahead) + len(behind) < len(stretches):
        return ahead + parted(stretches[len(ahead)], place) + behind
    first = last = place
    if ahead and ahead[-1][1] == place - 1:
        first = ahead.pop()[0]
    if behind and behind[0][0] == place + 1:
        last = behind.pop(0)[1]
    return ahead + [(first, last)] + behind


def parted(stretch, place):
    """What is left of a stretch without one of its places: two stretches, one or none."""
    first, last = stretch
    parts = [(first, place - 1), (place + 1, last)]
    return [(low, high) for low, high in parts if low <= high]


def row_of(places):
    """The row that shows heads at just the unlike places of a list."""
    if not isinstance(places, (list, tuple)):
        raise NoPlace("a list of places is due")
    for place in places:
        check_place(place, 1)
    stretches = []
    for place in sorted(places):
        if place == last_of(stretches):
            raise NoPlace("a place stands twice in the list")
        stretches = flipped(stretches, place)
    return stretches


def about(row, n):
    """The row turned about within n places: heads where the row, from place n down, shows none."""
    stretches = given_row(row)
    check_places(n, stretches)
    gaps = []
    free = 1
    for first, last in stretches + [(n + 1, n + 1)]:
        if free < first:
            gaps.append((n + 2 - first, n + 1 - free))
        free = last + 1
    return gaps[::-1]
