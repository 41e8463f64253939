"""Point 23: turns, lines and pairs of each kind within so many places."""

import unittest

from tests.helper import (
    FAR_ROWS, FIFTY, FIFTY_ONE, FORTY, HALF, KINDS, LONG_PAIRS, LONG_WITHIN, NO_KINDS, NO_PAIRS, NO_ROWS, NO_TURNS,
    NO_WHOS, SOME_ROWS, THIRTY, RefusalCase, anything, ends_of_kind, kind_walked, ladder_climbed, leader, pair_from,
    pairs_within as pairs_in, places_of, row_from, rows_within, spots, told_pair, told_row, turn_of_kind, written_ways,
)
from turntell import errors
from turntell.far import pair_at
from turntell.kinds import ends_within, line_within, pair_within, pairs_within, turn_within
from turntell.lines import how_far, line_of
from turntell.rows import about, heads, last_place
from turntell.turns import turn

BOTH = ("one", "other")
NO_N = anything() + [0, -1, -FORTY, "", "1", [], [1], (1,), {}]


def places_for(row):
    """Numbers of places for a row: its last one, one more, twice as many and far more."""
    last = last_place(row)
    return [max(last, 1), last + 1, 2 * last + 5, FORTY + last]


def many_climbed(n, kind, row):
    """How many pairs a line has, by the ladder of its row."""
    first, second = ladder_climbed(row, n)
    return first if kind[0] == kind[1] else second


def ends_told(n, kind, row):
    """Both ends of a line, as the document tells them."""
    every, turned = [(1, n)], about(row, n)
    return {
        (0, 0): ((row, []), ([], row)), (0, 1): ((row, []), (every, turned)),
        (1, 0): (([], row), (turned, every)), (1, 1): ((turned, every), (every, turned)),
    }[kind]


def kinds_and_places(rows):
    """Each row with each kind and each number of places for it."""
    return [(row, kind, n) for row in rows for kind in KINDS for n in places_for(row)]


class TurnWithin(RefusalCase):
    def test_all_small_pairs(self):
        for n in (1, 2, 3, 4):
            for sets in pairs_in(n):
                for kind in KINDS:
                    for who in BOTH:
                        told = turn_within(n, kind, pair_from(sets), who)
                        self.assertEqual(told, pair_from(turn_of_kind(n, kind, sets, who)))
                        self.assertTrue(told_pair(told))
                        self.assertEqual(turn_within(n, kind, told, who), pair_from(sets))

    def test_rests_at_nought(self):
        for kind in KINDS:
            for row, n in [([(1, 3)], 3), ([(HALF, FORTY)], FORTY), ([], 1), ([], FORTY)]:
                one, other = turn_within(n, kind, (row, []), "one"), turn_within(n, kind, ([], row), "other")
                if kind[0] == 0:
                    self.assertEqual(one, (row, []))
                else:
                    self.assertEqual(one, turn((row, [(1, 1)]), "one")[:1] + ([],))
                self.assertEqual(other == ([], row), kind[1] == 0)

    def test_rests_beyond_the_last_place(self):
        for kind in KINDS:
            for row, n in [([(2, 3)], 3), ([(HALF, FORTY)], FORTY), ([], 1), ([], FORTY)]:
                every = [(1, n)]
                one, other = turn_within(n, kind, (row, every), "one"), turn_within(n, kind, (every, row), "other")
                self.assertEqual(one == (row, every), kind[0] == 1)
                self.assertEqual(other == (every, row), kind[1] == 1)
                if kind[0] == 0:
                    self.assertEqual(one, turn((row, every), "one"))

    def test_the_places_bound_nothing_else(self):
        for one in SOME_ROWS:
            for other in SOME_ROWS:
                for n in (max(last_place(one), last_place(other), 1), FORTY + 1):
                    self.assertEqual(turn_within(n, (0, 0), (one, other), "one"), turn((one, other), "one"))
                    self.assertEqual(turn_within(n, (0, 1), (one, other), "one"), turn((one, other), "one"))
                    self.assertEqual(turn_within(n, (1, 0), (one, other), "other"), turn((one, other), "other"))
                    if heads(other) < n:
                        told = turn_within(n, (1, 0), (one, other), "one")
                        self.assertEqual(told, turn((one, [(1, heads(other) + 1)]), "one")[:1] + (other,))

    def test_pairs_on_long_lines(self):
        for n, kind, pair in LONG_WITHIN:
            for who in BOTH:
                behind = turn_within(n, kind, pair, who)
                self.assertNotEqual(behind, pair)
                self.assertEqual(turn_within(n, kind, behind, who), pair)

    def test_refusals(self):
        plain = ([(1, 2)], [])
        for at, thing in enumerate(NO_WHOS):
            with self.subTest(at=at):
                self.refused(errors.NoWho, turn_within, 3, (0, 1), plain, thing)
        for at, thing in enumerate(NO_PAIRS):
            with self.subTest(at=at):
                self.refused(errors.NoPair, turn_within, FORTY, (0, 1), thing, "one")


class EndsWithin(RefusalCase):
    def test_all_small_rows(self):
        for n in (1, 2, 3, 4):
            for places in rows_within(n):
                for kind in KINDS:
                    due = tuple(map(pair_from, ends_of_kind(n, kind, places)))
                    walked = kind_walked(n, kind, places)
                    told = ends_within(n, kind, row_from(places))
                    self.assertEqual(told, due)
                    self.assertEqual(told, (walked[0], walked[-1]))

    def test_far(self):
        for row, kind, n in kinds_and_places(FAR_ROWS + FIFTY_ONE):
            told = ends_within(n, kind, row)
            self.assertEqual(told, ends_told(n, kind, row))
            self.assertIs(type(told), tuple)
            self.assertTrue(all(map(told_pair, told)))
            first, last = told
            many = many_climbed(n, kind, row)
            self.assertEqual(turn_within(n, kind, first, leader(kind, 1)), first)
            self.assertEqual(turn_within(n, kind, last, leader(kind, many - 1)), last)

    def test_no_heads_and_all(self):
        for n in (1, 2, 7, FORTY):
            for row in ([], [(1, n)]):
                for kind in KINDS:
                    self.assertEqual(ends_within(n, kind, row), ends_told(n, kind, row))
        self.assertEqual(ends_within(3, (1, 1), []), (([(1, 3)], [(1, 3)]), ([(1, 3)], [(1, 3)])))
        self.assertEqual(ends_within(3, (0, 1), [(1, 3)]), (([(1, 3)], []), ([(1, 3)], [])))

    def test_no_rows(self):
        for at, thing in enumerate(NO_ROWS):
            with self.subTest(at=at):
                self.refused(errors.NoRow, ends_within, FORTY, (1, 1), thing)
                self.refused(errors.NoRow, pairs_within, FORTY, (0, 1), thing)
                self.refused(errors.NoRow, pair_within, FORTY, (1, 0), thing, 0)


class PairsWithin(RefusalCase):
    def test_all_small_rows(self):
        for n in (1, 2, 3, 4, 5):
            for kind in KINDS:
                many = [pairs_within(n, kind, row_from(places)) for places in rows_within(n)]
                self.assertEqual(many, [len(kind_walked(n, kind, places)) for places in rows_within(n)])
                self.assertEqual(sum(many), 4 ** n)

    def test_far(self):
        for row, kind, n in kinds_and_places(FAR_ROWS + FIFTY_ONE):
            told = pairs_within(n, kind, row)
            self.assertEqual(told, many_climbed(n, kind, row))
            self.assertIs(type(told), int)

    def test_no_heads_and_all(self):
        for n in (1, 2, 9, FORTY):
            self.assertEqual([pairs_within(n, kind, []) for kind in KINDS], [1, 2 * n + 1, 2 * n + 1, 1])
            self.assertEqual([pairs_within(n, kind, [(1, n)]) for kind in KINDS], [2 * n + 1, 1, 1, 2 * n + 1])


class LineWithin(RefusalCase):
    def test_all_small_pairs(self):
        for n in (1, 2, 3, 4, 6):
            for kind in KINDS:
                found = set()
                for places in rows_within(n):
                    for far, pair in enumerate(kind_walked(n, kind, places)):
                        self.assertEqual(line_within(n, kind, pair), (row_from(places), far))
                        found.add(str(pair))
                self.assertEqual(len(found), 4 ** n)

    def test_kinds_of_what_is_told(self):
        told = line_within(5, [1, 0], [[[1, 2]], ((4, 5),)])
        self.assertIs(type(told), tuple)
        self.assertTrue(told_row(told[0]))
        self.assertIs(type(told[1]), int)

    def test_as_lines_that_no_places_bound(self):
        for row in FAR_ROWS:
            way = ladder_climbed(row, last_place(row))[0] - 1
            for far in spots(way):
                pair = pair_at(row, far)
                for n in places_for(row):
                    self.assertEqual(line_within(n, (0, 0), pair), (row, far))
                    self.assertEqual(line_within(n, (0, 0), pair), (line_of(pair), how_far(pair)))
                    self.assertEqual(pair_within(n, (0, 0), row, far), pair)

    def test_too_many(self):
        for n, kind, pair in LONG_WITHIN:
            self.refused_many(line_within, n, kind, pair)
            self.refused_many(line_within, n, kind, turn_within(n, kind, pair, "one"))
        for pair in LONG_PAIRS:
            self.refused_many(line_within, 2 * FORTY, (0, 0), pair)
        for row, kind, n in kinds_and_places(FIFTY_ONE):
            self.assertEqual(pair_within(n, kind, row, 0), ends_told(n, kind, row)[0])
            for far in spots(pairs_within(n, kind, row) - 1):
                self.refused_many(line_within, n, kind, pair_within(n, kind, row, far))
        for row, kind, n in kinds_and_places(FIFTY):
            many = pairs_within(n, kind, row)
            for far in (0, 1, many // 2, many - 1):
                self.assertEqual(line_within(n, kind, pair_within(n, kind, row, far)), (row, far))

    def test_many_stretches_of_a_pair_are_not_too_many(self):
        row, n = FIFTY[2], last_place(FIFTY[2]) + 50
        for kind in KINDS:
            many = pairs_within(n, kind, row)
            some = [many * part // 997 for part in (981, 993, 996)]
            pairs = [pair_within(n, kind, row, far) for far in some]
            self.assertGreater(max(len(side) for pair in pairs for side in pair), 90)
            self.assertEqual([line_within(n, kind, pair) for pair in pairs], [(row, far) for far in some])

    def test_no_pairs(self):
        for at, thing in enumerate(NO_PAIRS):
            with self.subTest(at=at):
                self.refused(errors.NoPair, line_within, FORTY, (1, 0), thing)


class PairWithin(RefusalCase):
    def test_all_small_rows(self):
        for n in (1, 2, 3, 4, 6):
            for kind in KINDS:
                for places in rows_within(n):
                    row, walked = row_from(places), kind_walked(n, kind, places)
                    self.assertEqual([pair_within(n, kind, row, far) for far in range(len(walked))], walked)
                    self.refused(errors.NoTurns, pair_within, n, kind, row, len(walked))

    def test_one_turn_on_and_told_back(self):
        for row, kind, n in kinds_and_places(SOME_ROWS + THIRTY + FIFTY_ONE[1:]):
            many = many_climbed(n, kind, row)
            for far in spots(many - 1):
                pair = pair_within(n, kind, row, far)
                self.assertTrue(told_pair(pair))
                self.assertLessEqual(max(map(last_place, pair)), n)
                on = turn_within(n, kind, pair, leader(kind, far))
                self.assertEqual(on, pair_within(n, kind, row, min(far + 1, many - 1)))
                back = turn_within(n, kind, pair, leader(kind, far + 1))
                self.assertEqual(back, pair_within(n, kind, row, max(far - 1, 0)))
                if len(row) <= 50:
                    self.assertEqual(line_within(n, kind, pair), (row, far))

    def test_ends(self):
        for row, kind, n in kinds_and_places(FAR_ROWS + FIFTY_ONE):
            many = pairs_within(n, kind, row)
            self.assertEqual((pair_within(n, kind, row, 0), pair_within(n, kind, row, many - 1)), ends_told(n, kind, row))
            for more in (0, 1, FORTY, 10 ** 2499):
                self.refused(errors.NoTurns, pair_within, n, kind, row, many + more)

    def test_no_heads_and_all(self):
        for n in (1, 2, 9, FORTY):
            for kind in KINDS:
                for row in ([], [(1, n)]):
                    many = pairs_within(n, kind, row)
                    for far in spots(many - 1):
                        self.assertEqual(line_within(n, kind, pair_within(n, kind, row, far)), (row, far))

    def test_all_places_walked(self):
        for n in (1, 5, 9):
            for kind in KINDS:
                for row in ([], [(1, n)]):
                    for far, pair in enumerate(kind_walked(n, kind, places_of(row))):
                        self.assertEqual(pair_within(n, kind, row, far), pair)

    def test_no_turns(self):
        for at, thing in enumerate(NO_TURNS):
            with self.subTest(at=at):
                self.refused(errors.NoTurns, pair_within, 1, (0, 0), [], thing)
                self.refused(errors.NoTurns, pair_within, FORTY, (1, 0), FIFTY_ONE[1], thing)


class Handed(RefusalCase):
    def calls(self, n, kind, pair, row):
        """Each function of the point, with what is told ahead of the last arguments."""
        return [(turn_within, n, kind, pair, "one"), (ends_within, n, kind, row), (pairs_within, n, kind, row),
                (line_within, n, kind, pair), (pair_within, n, kind, row, 0)]

    def test_no_places(self):
        for at, thing in enumerate(NO_N):
            with self.subTest(at=at):
                for call in self.calls(thing, (0, 1), ([], []), []) + self.calls(thing, None, None, None):
                    self.refused(errors.NoPlaces, *call)

    def test_no_kinds(self):
        for at, thing in enumerate(NO_KINDS):
            with self.subTest(at=at):
                for call in self.calls(4, thing, ([], []), []) + self.calls(4, thing, None, None):
                    self.refused(errors.NoKind, *call)

    def test_beyond_the_places(self):
        for kind in KINDS:
            for n, row in [(1, [(2, 2)]), (3, [(1, 2), (4, 4)]), (HALF, [(HALF, HALF + 1)]), (1, [(1, FORTY)])]:
                for pair in [(row, []), ([], row), (row, row)]:
                    self.refused(errors.NoPair, turn_within, n, kind, pair, "one")
                    self.refused(errors.NoPair, turn_within, n, kind, pair, None)
                    self.refused(errors.NoPair, line_within, n, kind, pair)
                self.refused(errors.NoRow, ends_within, n, kind, row)
                self.refused(errors.NoRow, pairs_within, n, kind, row)
                self.refused(errors.NoRow, pair_within, n, kind, row, 0)
                self.refused(errors.NoRow, pair_within, n, kind, row, None)
                self.assertEqual(ends_within(last_place(row), kind, row), ends_told(last_place(row), kind, row))
        for pair in LONG_PAIRS:
            self.refused(errors.NoPair, line_within, 5, (0, 0), pair)

    def test_rows_pairs_and_kinds_by_lists_and_tuples(self):
        one, other = [(1, 2), (5, 9)], [(3, 3), (7, 8)]
        for kind in KINDS:
            due = line_within(11, kind, (one, other)), turn_within(11, kind, (one, other), "one")
            ends, many = ends_within(11, kind, one), pairs_within(11, kind, one)
            for way, side in zip(written_ways(one), written_ways(other)):
                for given in (kind, list(kind)):
                    for pair in [(way, side), [way, side]]:
                        self.assertEqual(line_within(11, given, pair), due[0])
                        self.assertEqual(turn_within(11, given, pair, "one"), due[1])
                    self.assertEqual(ends_within(11, given, way), ends)
                    self.assertEqual(pairs_within(11, given, way), many)
                    self.assertEqual(pair_within(11, given, way, many - 1), ends[1])


if __name__ == "__main__":
    unittest.main()
