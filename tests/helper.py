"""What the tests share: odd things to hand in, and rows told a second way, by sets of places."""

import unittest
from itertools import combinations

from turntell import errors

FORTY = 10 ** 40 - 1  # the greatest number of forty figures
HALF = 10 ** 39  # the least one


class Prickly:
    """A thing that answers no question."""

    __hash__ = None

    def _no(self, *_):
        raise RuntimeError("asked")

    __eq__ = __ne__ = __lt__ = __le__ = __gt__ = __ge__ = _no
    __bool__ = __len__ = __iter__ = __contains__ = __getitem__ = _no
    __int__ = __index__ = __str__ = __repr__ = __add__ = __radd__ = _no


def anything():
    """Things that are no row, place, number, pair, who, word or list of places."""
    own = []
    own.append(own)
    deep = []
    for _ in range(39):
        deep = [deep]
    return [
        None, True, False, 1.0, 0.0, float("nan"), float("inf"), 2j, -1, -FORTY, "a", "one two", "3",
        b"", b"12", bytearray(b"1"), {1: 2}, {1, 2}, {(1, 2)}, frozenset([1]), range(3), object(), Prickly(),
        int, list, len, Prickly, ..., NotImplemented, ValueError("x"), iter([(1, 2)]), (n for n in [1]),
        own, [own], deep, [None], [True], [Prickly()], [[Prickly(), 1]], [(Prickly(), Prickly())], ([], Prickly()),
    ]


class RefusalCase(unittest.TestCase):
    """A test case that asks for refusals."""

    def refused(self, kind, deed, *args, **named):
        """The error of a call, which is of just this class of refusals."""
        with self.assertRaises(ValueError) as caught:
            deed(*args, **named)
        error = caught.exception
        self.assertIs(type(error), kind)
        self.assertIsInstance(error, errors.TurnError)
        for other in errors.TurnError.__subclasses__():
            self.assertEqual(isinstance(error, other), other is kind)
        return error

    def refused_many(self, deed, *args, **named):
        """A row of too many stretches is refused."""
        self.assertEqual(self.refused(errors.TooMany, deed, *args, **named).many, 51)


NO_ROWS = [
    {}, set(), "", "ab", 0, 5, [1], [1, 2], (1, 2), [()], [[]], [(1,)], [(1, 2, 3)], [(1, 2), (4,)], [(1, 2), (4, 5, 6)],
    [(0, 1)], [(-1, 1)], [(0, 0)], [(2, 1)], [(1, 0)], [(5, 3)], [(1, 2), (3, 4)], [(1, 2), (2, 4)],
    [(1, 4), (2, 3)], [(1, 1), (1, 1)], [(4, 5), (1, 2)], [(1, 1), (2, 2)], [(1, 2), (4, 3)], [(1, 5), (5, 9)],
    [(True, 1)], [(1, True)], [(1, 2), (False, 4)], [(1.0, 2)], [(1, 2.0)], [("1", "2")], [("1", 2)], ["12"],
    [b"ab"], [{1, 2}], [{1: 2, 3: 4}], [(None, None)], [(1, None)], [None], [(1, 2), None], [([1], [2])],
    [((1, 2), (4, 5))], ([], []), ([(1, 2)], []), [range(1, 3)], [(HALF, HALF - 1)],
    [(1, HALF), (HALF + 1, FORTY)], [(1, 2), (4, 5), (6, 7)], [(1, 2), (4, 5), (3, 7)],
] + anything()

SOME_ROWS = [
    [], [(1, 1)], [(2, 2)], [(1, 3)], [(3, 7)], [(1, 1), (3, 3)], [(2, 4), (6, 6), (8, 11)],
    [(HALF, FORTY)], [(1, HALF)], [(1, 5), (HALF, HALF), (HALF + 2, FORTY)],
    [(4 * k + 1, 4 * k + 3) for k in range(30)],
]

NO_PAIRS = [
    [], (), ([],), [[]], ([], [], []), [[], [], []], ([(1, 2)], [(4, 5)], [(7, 8)]), [(1, 2), (4, 5)], [(1, 2)],
    ((1, 2), (4, 5)), {}, "", "12", {1: [], 2: []}, iter([[], []]),
] + [([], thing) for thing in NO_ROWS] + [(thing, [(1, 2)]) for thing in NO_ROWS] + anything()
NO_WHOS = [
    0, 1, 2, "", "One", "other ", "on", "1", "2", "oneother", b"one", ["one"], ("other",), {"one"}, [],
] + anything()

NO_TURNS = anything() + ["", "0", [], [1], (1,), -1, -10 ** 2499]

KINDS = [(0, 0), (0, 1), (1, 0), (1, 1)]
NO_KINDS = [
    (), [], (0,), [1], (0, 0, 0), [0, 1, 1], (0, 2), (2, 0), (2, 2), (-1, 0), (0, -1), (True, 0), (0, False),
    (True, False), [False, 1], (0.0, 1), (1, 1.0), ("0", "1"), "01", "", b"01", {0: 1, 1: 0}, {0, 1}, 0, 1, (None, 0),
    (0, None), ((0, 0), (0, 0)), [[], []], [0, []], range(2), (0, Prickly()), (FORTY, 0), (0, FORTY),
] + anything()

# Rows of thirty stretches, the last two of places of forty figures throughout, with a head at place 1 and without.
THIRTY = [
    [(4 * k + 1, 4 * k + 3) for k in range(30)],
    [(2 * k, 2 * k) for k in range(1, 31)],
    [(HALF * k // 4 + k * k, HALF * (2 * k + 1) // 8 - 7 ** k) for k in range(4, 34)],
    [(1, HALF)] + [(HALF * k // 4 + k * k, HALF * (2 * k + 1) // 8 - 7 ** k) for k in range(5, 34)],
]
TENTH = HALF // 10
FIFTY = [
    [(2 * k, 2 * k) for k in range(1, 51)],
    [(3 * k + 1, 3 * k + 2) for k in range(50)],
    [(TENTH * k, TENTH * k + 10 ** (k // 2)) for k in range(1, 51)],
]
FIFTY_ONE = [
    [(2 * k, 2 * k) for k in range(1, 52)],
    [(1, 1)] + [(TENTH * k, TENTH * k + 10 ** (k // 2)) for k in range(1, 51)],
]
FAR_ROWS = SOME_ROWS + THIRTY + FIFTY

# Pairs on lines of rows that show heads and tails by turns for long.
LONG_PAIRS = [
    ([(HALF + 1, 2 * HALF)], [(1, HALF)]), ([(1, HALF)], [(HALF + 1, 2 * HALF)]), ([(103, 204)], [(1, 102)]),
    ([], FIFTY_ONE[0]), (FIFTY_ONE[1], []),
]

# Pairs within places whose line of a kind, each of another one, is that of a row of heads and tails by turns for long:
# each is what a layer leaves of the one ahead.
LONG_WITHIN = [
    (2 * HALF, (0, 0), ([(HALF + 1, 2 * HALF)], [(1, HALF)])),
    (2 * HALF - 1, (0, 1), ([(HALF + 1, 2 * HALF - 1)], [(1, HALF)])),
    (2 * HALF - 2, (1, 1), ([(HALF + 1, 2 * HALF - 2)], [(1, HALF - 1)])),
    (2 * HALF - 3, (1, 0), ([(HALF, 2 * HALF - 3)], [(1, HALF - 2)])),
]


def rows_within(n):
    """All rows within n places, as sorted tuples of places."""
    every = range(1, n + 1)
    return [places for many in range(n + 1) for places in combinations(every, many)]


def row_from(places):
    """A row by its places, put together place by place."""
    row = []
    for place in sorted(places):
        if row and row[-1][1] == place - 1:
            row[-1] = (row[-1][0], place)
        else:
            row.append((place, place))
    return row


def places_of(row):
    """The set of places of a small row."""
    return {place for first, last in row for place in range(first, last + 1)}


def pairs_within(n):
    """All pairs within n places, as tuples of sets of places."""
    return [(set(one), set(other)) for one in rows_within(n) for other in rows_within(n)]


def pair_from(sets):
    """A pair of rows by a pair of sets of places."""
    return (row_from(sets[0]), row_from(sets[1]))


def turn_of_sets(sets, who):
    """A turn, told by sets of places."""
    one, other = set(sets[0]), set(sets[1])
    if who == "one":
        one ^= {len(other)} - {0}
    else:
        other ^= {len(one)} - {0}
    return (one, other)


def told_row(thing):
    """Whether a thing has just the kinds of a row that is told."""
    return type(thing) is list and all(
        type(stretch) is tuple and len(stretch) == 2 and all(type(end) is int for end in stretch) for stretch in thing
    )


def told_pair(thing):
    """Whether a thing has just the kinds of a pair that is told."""
    return type(thing) is tuple and len(thing) == 2 and all(told_row(row) for row in thing)


def written_ways(row):
    """A row by lists and tuples in every mixture that is one kind on each level."""
    return [
        outer(inner(stretch) for stretch in row) for outer in (list, tuple) for inner in (list, tuple)
    ] + [[list(stretch) if at % 2 else tuple(stretch) for at, stretch in enumerate(row)]]


def turn_of_kind(n, kind, sets, who):
    """A turn of a kind within n places, told by sets of places."""
    one, other = set(sets[0]), set(sets[1])
    every = set(range(1, n + 1))
    if who == "one":
        one ^= {len(other) + kind[0]} & every
    else:
        other ^= {len(one) + kind[1]} & every
    return (one, other)


def ends_of_kind(n, kind, places):
    """Both ends of the line of a kind of a row within n places, by sets of places."""
    row, every = set(places), set(range(1, n + 1))
    turned = {place for place in every if n + 1 - place not in row}
    return {
        (0, 0): ((row, set()), (set(), row)), (0, 1): ((row, set()), (every, turned)),
        (1, 0): ((set(), row), (turned, every)), (1, 1): ((turned, every), (every, turned)),
    }[kind]


def leader(kind, far):
    """Who leads on from a pair so far on a line of a kind: the first turn is that which does not rest at its end."""
    first, second = ("one", "other") if kind == (1, 0) else ("other", "one")
    return second if far % 2 else first


def kind_walked(n, kind, places):
    """All pairs of the line of a kind of a row within n places, turn by turn from its first end, up to a rest."""
    now, pairs = ends_of_kind(n, kind, places)[0], []
    while not pairs or pairs[-1] != now:
        pairs.append(now)
        now = turn_of_kind(n, kind, now, leader(kind, len(pairs) - 1))
    return [pair_from(sets) for sets in pairs]


def line_walked(places):
    """All pairs of the line of a row, turn by turn, the one with the row itself first, up to a rest."""
    now, who, pairs = (set(places), set()), "other", []
    while not pairs or pairs[-1] != now:
        pairs.append(now)
        now, who = turn_of_sets(now, who), "one" if who == "other" else "other"
    return [pair_from(sets) for sets in pairs]


def lines_within(n):
    """All rows within n places, each with all pairs of its line."""
    return [(row_from(places), line_walked(places)) for places in rows_within(n)]


def alone_walked(places):
    """A row and all that it comes to alone, turn by turn, up to that without heads."""
    now, rows = set(places), []
    while now:
        rows.append(now)
        now = now ^ {len(now)}
    return [row_from(row) for row in rows] + [[]]


def ladder_climbed(row, n):
    """The ladder of a row within n places, by stretches: between them tails, in them heads."""
    one, other, free = 1, 1, 1
    for first, last in row:
        other += 2 * one * (first - free)
        one += 2 * other * (last + 1 - first)
        free = last + 1
    return (one, other + 2 * one * (n + 1 - free))


def way_climbed(row):
    """How many turns the line of a row is long, by its ladder."""
    return ladder_climbed(row, row[-1][1] if row else 0)[0] - 1


def spots(way):
    """Numbers of turns on a line of a way: the ends, those beside them, the half and some between."""
    some = {0, 1, 2, 3, way // 7, way // 3, way // 2 - 1, way // 2, way // 2 + 1, way * 5 // 8, way - 2, way - 1, way}
    return sorted(spot for spot in some if 0 <= spot <= way)
