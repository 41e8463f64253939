"""What the tests share: odd things to hand in, and rows told a second way, by sets of places."""

from itertools import combinations

FORTY = 10 ** 40 - 1  # the greatest number of forty figures
HALF = 10 ** 39  # the least one


class Prickly:
    """A thing that answers no question."""

    __hash__ = None

    def _no(self, *_):
        raise RuntimeError("asked")

    __eq__ = __ne__ = __lt__ = __le__ = __gt__ = __ge__ = _no
    __bool__ = __len__ = __iter__ = __contains__ = __getitem__ = _no
    __int__ = __index__ = __str__ = __repr__ = __add__ = __radd__ = _no


def anything():
    """Things that are no row, place, number, pair, who, word or list of places."""
    own = []
    own.append(own)
    deep = []
    for _ in range(39):
        deep = [deep]
    return [
        None, True, False, 1.0, 0.0, float("nan"), float("inf"), 2j, -1, -FORTY, "a", "one two", "3",
        b"", b"12", bytearray(b"1"), {1: 2}, {1, 2}, {(1, 2)}, frozenset([1]), range(3), object(), Prickly(),
        int, list, len, Prickly, ..., NotImplemented, ValueError("x"), iter([(1, 2)]), (n for n in [1]),
        own, [own], deep, [None], [True], [Prickly()], [[Prickly(), 1]], [(Prickly(), Prickly())], ([], Prickly()),
    ]


NO_ROWS = [
    {}, set(), "", "ab", 0, 5, [1], [1, 2], (1, 2), [()], [[]], [(1,)], [(1, 2, 3)], [(1, 2), (4,)], [(1, 2), (4, 5, 6)],
    [(0, 1)], [(-1, 1)], [(0, 0)], [(2, 1)], [(1, 0)], [(5, 3)], [(1, 2), (3, 4)], [(1, 2), (2, 4)],
    [(1, 4), (2, 3)], [(1, 1), (1, 1)], [(4, 5), (1, 2)], [(1, 1), (2, 2)], [(1, 2), (4, 3)], [(1, 5), (5, 9)],
    [(True, 1)], [(1, True)], [(1, 2), (False, 4)], [(1.0, 2)], [(1, 2.0)], [("1", "2")], [("1", 2)], ["12"],
    [b"ab"], [{1, 2}], [{1: 2, 3: 4}], [(None, None)], [(1, None)], [None], [(1, 2), None], [([1], [2])],
    [((1, 2), (4, 5))], ([], []), ([(1, 2)], []), [range(1, 3)], [(HALF, HALF - 1)],
    [(1, HALF), (HALF + 1, FORTY)], [(1, 2), (4, 5), (6, 7)], [(1, 2), (4, 5), (3, 7)],
] + anything()

SOME_ROWS = [
    [], [(1, 1)], [(2, 2)], [(1, 3)], [(3, 7)], [(1, 1), (3, 3)], [(2, 4), (6, 6), (8, 11)],
    [(HALF, FORTY)], [(1, HALF)], [(1, 5), (HALF, HALF), (HALF + 2, FORTY)],
    [(4 * k + 1, 4 * k + 3) for k in range(30)],
]


def rows_within(n):
    """All rows within n places, as sorted tuples of places."""
    every = range(1, n + 1)
    return [places for many in range(n + 1) for places in combinations(every, many)]


def row_from(places):
    """A row by its places, put together place by place."""
    row = []
    for place in sorted(places):
        if row and row[-1][1] == place - 1:
            row[-1] = (row[-1][0], place)
        else:
            row.append((place, place))
    return row


def places_of(row):
    """The set of places of a small row."""
    return {place for first, last in row for place in range(first, last + 1)}


def pairs_within(n):
    """All pairs within n places, as tuples of sets of places."""
    return [(set(one), set(other)) for one in rows_within(n) for other in rows_within(n)]


def pair_from(sets):
    """A pair of rows by a pair of sets of places."""
    return (row_from(sets[0]), row_from(sets[1]))


def turn_of_sets(sets, who):
    """A turn, told by sets of places."""
    one, other = set(sets[0]), set(sets[1])
    if who == "one":
        one ^= {len(other)} - {0}
    else:
        other ^= {len(one)} - {0}
    return (one, other)


def told_row(thing):
    """Whether a thing has just the kinds of a row that is told."""
    return type(thing) is list and all(
        type(stretch) is tuple and len(stretch) == 2 and all(type(end) is int for end in stretch) for stretch in thing
    )


def told_pair(thing):
    """Whether a thing has just the kinds of a pair that is told."""
    return type(thing) is tuple and len(thing) == 2 and all(told_row(row) for row in thing)


def written_ways(row):
    """A row by lists and tuples in every mixture that is one kind on each level."""
    return [
        outer(inner(stretch) for stretch in row) for outer in (list, tuple) for inner in (list, tuple)
    ] + [[list(stretch) if at % 2 else tuple(stretch) for at, stretch in enumerate(row)]]
