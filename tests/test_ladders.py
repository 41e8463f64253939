"""Points 11 and 12: ladders, and the row that two numbers tell."""

import unittest

from tests.helper import (
    FAR_ROWS, FIFTY, FIFTY_ONE, FORTY, HALF, NO_ROWS, THIRTY, RefusalCase, anything, ladder_climbed, line_walked,
    row_from, rows_within, told_row, way_climbed, written_ways,
)
from turntell import errors
from turntell.ladders import ladder, row_by, way_of
from turntell.rows import row_of

SMALL = 7


def climbed_places(places, n):
    """A ladder, place by place."""
    one = other = 1
    for place in range(1, n + 1):
        if place in places:
            one += 2 * other
        else:
            other += 2 * one
    return (one, other)


def climbed_on(one, other, coins):
    """Two numbers, and how they grow on by places with heads (h) and tails (t)."""
    for coin in coins:
        if coin == "h":
            one += 2 * other
        else:
            other += 2 * one
    return one, other


class Ladder(RefusalCase):
    """[11]"""

    def test_all_small_rows(self):
        for places in rows_within(SMALL):
            row = row_from(places)
            for n in range(max(places, default=0), SMALL + 4):
                with self.subTest(row=row, n=n):
                    self.assertEqual(ladder(row, n), climbed_places(places, n))
                    self.assertIs(type(ladder(row, n)), tuple)

    def test_by_hand(self):
        self.assertEqual(ladder([], 0), (1, 1))
        self.assertEqual(ladder([], 1), (1, 3))
        self.assertEqual(ladder([(1, 1)], 1), (3, 1))
        self.assertEqual(ladder([(1, 1)], 2), (3, 7))
        self.assertEqual(ladder([(2, 2)], 2), (7, 3))
        self.assertEqual(ladder([(1, 2), (4, 4)], 4), (27, 11))
        self.assertEqual(ladder([(1, 2), (4, 4)], 5), (27, 65))

    def test_n_and_the_last_place(self):
        for row in FAR_ROWS:
            last = row[-1][1] if row else 0
            for n in [last, last + 1, last + 2, last + FORTY, 10 ** 41]:
                self.assertEqual(ladder(row, n), ladder_climbed(row, n))
                self.assertEqual(ladder(row, n)[0] - 1, way_of(row))
            self.refused(errors.NoPlaces, ladder, row, last - 1)

    def test_forty_figures(self):
        self.assertEqual(ladder([], FORTY), (1, 2 * FORTY + 1))
        self.assertEqual(ladder([(1, FORTY)], FORTY), (2 * FORTY + 1, 1))
        self.assertEqual(ladder([(FORTY, FORTY)], FORTY), (4 * FORTY - 1, 2 * FORTY - 1))
        self.assertEqual(ladder([(1, HALF)], FORTY), (2 * HALF + 1, 1 + 2 * (FORTY - HALF) * (2 * HALF + 1)))

    def test_way(self):
        for places in rows_within(SMALL):
            self.assertEqual(way_of(row_from(places)), len(line_walked(places)) - 1)
        self.assertEqual([way_of([]), way_of([(1, 1)]), way_of([(1, FORTY)])], [0, 2, 2 * FORTY])
        for row in FAR_ROWS:
            self.assertEqual(way_of(row), way_climbed(row))
            self.assertIs(type(way_of(row)), int)

    def test_many_places(self):
        row = row_of([HALF + 3 * k for k in range(300)])
        self.assertEqual(way_of(row), way_climbed(row))
        self.assertEqual(ladder(row, FORTY), ladder_climbed(row, FORTY))

    def test_rows_by_lists_and_tuples(self):
        for row in FAR_ROWS:
            for way in written_ways(row):
                self.assertEqual(ladder(way, 10 ** 41), ladder(row, 10 ** 41))
                self.assertEqual(way_of(way), way_of(row))

    def test_no_rows(self):
        for at, thing in enumerate(NO_ROWS):
            with self.subTest(at=at):
                self.refused(errors.NoRow, ladder, thing, FORTY)
                self.refused(errors.NoRow, ladder, thing, None)
                self.refused(errors.NoRow, way_of, thing)

    def test_no_places(self):
        for at, thing in enumerate(anything() + [0, 3, "", "4", [], [9], (9,)]):
            with self.subTest(at=at):
                self.refused(errors.NoPlaces, ladder, [(1, 2), (4, 4)], thing)
        self.refused(errors.NoPlaces, ladder, [(HALF, FORTY)], FORTY - 1)
        self.refused(errors.NoPlaces, ladder, [], -1)
        self.refused(errors.NoPlaces, ladder, [], False)


class RowBy(RefusalCase):
    """[12]"""

    def test_all_small_rows(self):
        found = {}
        for places in rows_within(SMALL):
            for n in range(max(places, default=0), SMALL + 1):
                told = row_by(*climbed_places(places, n))
                self.assertEqual(told, (row_from(places), n))
                self.assertIs(type(told), tuple)
                self.assertTrue(told_row(told[0]))
                self.assertIs(type(told[1]), int)
                found.setdefault(climbed_places(places, n), (places, n))
                self.assertEqual(found[climbed_places(places, n)], (places, n))

    def test_all_small_numbers(self):
        most = 120
        due = {(1, 1): ((), 0)}
        new = [(1, 1)]
        while new:
            one, other = new.pop()
            places, n = due[one, other]
            for up, more in [((one + 2 * other, other), places + (n + 1,)), ((one, other + 2 * one), places)]:
                if max(up) <= most:
                    self.assertNotIn(up, due)
                    due[up] = (more, n + 1)
                    new.append(up)
        for one in range(1, most + 1):
            for other in range(1, most + 1):
                told = due.get((one, other))
                if told is None:
                    self.assertIsNone(row_by(one, other))
                elif len(row_from(told[0])) <= 50:
                    self.assertEqual(row_by(one, other), (row_from(told[0]), told[1]))

    def test_edges(self):
        self.assertEqual(row_by(1, 1), ([], 0))
        self.assertEqual(row_by(1, 2 * FORTY + 1), ([], FORTY))
        self.assertEqual(row_by(2 * FORTY + 1, 1), ([(1, FORTY)], FORTY))
        for number in [2, 3, 4, 5, 7, 100, 101, FORTY, 10 ** 2500 - 1]:
            self.assertIsNone(row_by(number, number))
        for one, other in [(1, 2), (2, 1), (4, 1), (1, 4), (3, 2), (2, 3), (5, 4), (10 ** 2500, 1), (1, 10 ** 2500)]:
            self.assertIsNone(row_by(one, other))
        for one, other in [(3, 5), (5, 3), (9, 3), (3, 9), (6, 2), (7, 5), (9, 15), (15, 27), (FORTY, FORTY - 2)]:
            self.assertIsNone(row_by(one, other))

    def test_far_rows(self):
        for row in FAR_ROWS:
            last = row[-1][1] if row else 0
            for n in [last, last + 1, last + FORTY]:
                told = row_by(*ladder_climbed(row, n))
                self.assertEqual(told, (row, n))
                self.assertTrue(told_row(told[0]))

    def test_two_thousand_five_hundred_figures(self):
        one, other = ladder_climbed(THIRTY[2], 9 * HALF)
        self.assertTrue(10 ** 2200 < one < other < 10 ** 2500)
        self.assertEqual(row_by(one, other), (THIRTY[2], 9 * HALF))
        many = (10 ** 2500 - 2) // 2
        self.assertEqual(row_by(2 * many + 1, 1), ([(1, many)], many))
        self.assertEqual(row_by(1, 2 * many + 1), ([], many))
        for more in range(1, 5):
            self.assertIsNone(row_by(one + more, other))

    def test_fifty_and_fifty_one_stretches(self):
        for row in FIFTY:
            last = row[-1][1]
            self.assertEqual(row_by(*ladder_climbed(row, last)), (row, last))
            self.assertEqual(row_by(*ladder_climbed(row, last + 7)), (row, last + 7))
        for row in FIFTY_ONE:
            last = row[-1][1]
            self.refused_many(row_by, *ladder_climbed(row, last))
            self.refused_many(row_by, *ladder_climbed(row, last + 7))
        for many in (51, 52, 99, 300):
            self.refused_many(row_by, *climbed_on(1, 1, "ht" * many))
            self.refused_many(row_by, *climbed_on(1, 1, "th" * many))
        self.assertEqual(len(row_by(*climbed_on(1, 1, "th" * 50))[0]), 50)

    def test_nothing_far_down(self):
        for one, other in [(3, 3), (2, 2), (1, 2), (2, 1), (5, 3), (FORTY, FORTY), (10 ** 900, 10 ** 900 - 1)]:
            for coins in ["ht" * 49, "ht" * 51, "th" * 52, "htt" * 300, "ht" * 1000, "h" * 60, "t" * 60]:
                with self.subTest(one=one, coins=coins):
                    self.assertIsNone(row_by(*climbed_on(one, other, coins)))

    def test_no_numbers(self):
        for at, thing in enumerate(anything() + [0, "", "1", [], [1], (1,), [(1, 1)]]):
            with self.subTest(at=at):
                self.refused(errors.NoNumber, row_by, thing, 1)
                self.refused(errors.NoNumber, row_by, 3, thing)
                self.refused(errors.NoNumber, row_by, thing, thing)
                self.refused(errors.NoNumber, row_by, climbed_on(1, 1, "ht" * 60)[0], thing)


if __name__ == "__main__":
    unittest.main()
