"""Points 5 to 7: rows."""

import unittest

from tests.helper import (
    FORTY, HALF, NO_ROWS, SOME_ROWS, RefusalCase, anything, places_of, row_from, rows_within, told_row, written_ways,
)
from turntell import errors
from turntell.rows import (
    about, added, heads, heads_to, is_row, last_place, nth, row_of, shows, turned_over,
)

SMALL = 7
FAR = [(1, 5), (HALF, HALF), (HALF + 2, FORTY)]


class IsRow(RefusalCase):
    """[5]"""

    def test_rows(self):
        for row in SOME_ROWS:
            for way in written_ways(row):
                with self.subTest(row=row):
                    self.assertIs(is_row(way), True)

    def test_no_rows(self):
        for at, thing in enumerate(NO_ROWS):
            with self.subTest(at=at):
                self.assertIs(is_row(thing), False)

    def test_gap_of_one_place_is_due(self):
        for first in range(1, 9):
            self.assertIs(is_row([(2, 4), (first, 8)]), 6 <= first <= 8)

    def test_more_than_thirty_stretches(self):
        self.assertIs(is_row([(2 * k, 2 * k) for k in range(1, 500)]), True)
        self.assertIs(is_row([(2 * k, 2 * k) for k in range(1, 500)] + [(998, 999)]), False)

    def test_refused_by_everything_that_takes_a_row(self):
        calls = [
            heads, added, last_place, lambda row: heads_to(row, 1), lambda row: nth(row, 1), lambda row: shows(row, 1),
            lambda row: turned_over(row, 1), lambda row: about(row, FORTY),
        ]
        for number, call in enumerate(calls):
            for at, thing in enumerate(NO_ROWS):
                with self.subTest(call=number, at=at):
                    self.refused(errors.NoRow, call, thing)


class Told(RefusalCase):
    """[6]"""

    def test_all_small_rows(self):
        for places in rows_within(SMALL):
            row = row_from(places)
            with self.subTest(row=row):
                self.assertEqual(heads(row), len(places))
                self.assertEqual(added(row), sum(places))
                self.assertEqual(last_place(row), max(places, default=0))
                self.assertEqual([nth(row, k + 1) for k in range(len(places))], list(places))
                for place in range(1, SMALL + 3):
                    self.assertIs(shows(row, place), place in places)
                for place in range(0, SMALL + 3):
                    self.assertEqual(heads_to(row, place), len([p for p in places if p <= place]))

    def test_no_head(self):
        self.assertEqual((heads([]), added([]), last_place([])), (0, 0, 0))
        self.assertEqual((heads_to([], 0), heads_to([], FORTY)), (0, 0))
        self.assertIs(shows([], 1), False)
        self.assertIs(shows([], FORTY), False)
        self.refused(errors.NoNumber, nth, [], 1)

    def test_forty_figures(self):
        self.assertEqual(heads(FAR), 6 + FORTY - HALF - 1)
        self.assertEqual(heads([(1, FORTY)]), FORTY)
        self.assertEqual(added([(1, FORTY)]), FORTY * (FORTY + 1) // 2)
        self.assertEqual(added([(HALF, HALF), (FORTY, FORTY)]), HALF + FORTY)
        self.assertEqual(added([(HALF, HALF + 2)]), 3 * HALF + 3)
        self.assertEqual(last_place(FAR), FORTY)
        for place, there in [(5, True), (6, False), (HALF - 1, False), (HALF, True), (HALF + 1, False),
                             (HALF + 2, True), (FORTY, True), (FORTY + 1, False)]:
            self.assertIs(shows(FAR, place), there)
        for place, many in [(0, 0), (5, 5), (HALF - 1, 5), (HALF, 6), (HALF + 1, 6), (HALF + 2, 7), (HALF + 9, 14),
                            (FORTY, heads(FAR)), (FORTY + 9, heads(FAR))]:
            self.assertEqual(heads_to(FAR, place), many)
        for number, place in [(5, 5), (6, HALF), (7, HALF + 2), (heads(FAR), FORTY)]:
            self.assertEqual(nth(FAR, number), place)

    def test_kinds(self):
        for tell in (heads, added, last_place):
            self.assertIs(type(tell([(1, 2)])), int)
        self.assertIs(type(heads_to([(1, 2)], 1)), int)
        self.assertIs(type(nth([(1, 2)], 1)), int)

    def test_no_places(self):
        for deed, least in [(shows, 1), (heads_to, 0), (turned_over, 0)]:
            for at, thing in enumerate(anything() + [least - 1, "", [], [1], (1,), [(1, 1)]]):
                with self.subTest(deed=deed.__name__, at=at):
                    self.refused(errors.NoPlace, deed, [(1, 3)], thing)
                    self.refused(errors.NoPlace, deed, [], thing)

    def test_no_numbers(self):
        row = [(2, 4), (7, 7)]
        self.assertEqual(nth(row, 4), 7)
        for at, thing in enumerate(anything() + [0, 5, 6, FORTY, 10 ** 2500, "", [], [1], (1,)]):
            with self.subTest(at=at):
                self.refused(errors.NoNumber, nth, row, thing)


class TurnedOver(RefusalCase):
    """[6]"""

    def test_all_small_rows(self):
        for places in rows_within(SMALL):
            row = row_from(places)
            for place in range(0, SMALL + 3):
                with self.subTest(row=row, place=place):
                    over = turned_over(row, place)
                    self.assertTrue(told_row(over))
                    self.assertEqual(over, row_from(set(places) ^ ({place} - {0})))
                    self.assertIs(is_row(over), True)
                    self.assertEqual(turned_over(over, place), row)

    def test_put_together_parted_begun_and_gone(self):
        self.assertEqual(turned_over([(1, 2), (4, 6)], 3), [(1, 6)])
        self.assertEqual(turned_over([(1, 6)], 3), [(1, 2), (4, 6)])
        self.assertEqual(turned_over([(1, 2)], 4), [(1, 2), (4, 4)])
        self.assertEqual(turned_over([(1, 2), (4, 4)], 4), [(1, 2)])
        self.assertEqual(turned_over([(2, 3), (9, 9)], 4), [(2, 4), (9, 9)])
        self.assertEqual(turned_over([(2, 3), (9, 9)], 1), [(1, 3), (9, 9)])
        self.assertEqual(turned_over([(2, 3), (9, 9)], 2), [(3, 3), (9, 9)])
        self.assertEqual(turned_over([(2, 3), (9, 9)], 8), [(2, 3), (8, 9)])

    def test_forty_figures(self):
        self.assertEqual(turned_over([], FORTY), [(FORTY, FORTY)])
        self.assertEqual(turned_over(FAR, HALF + 1), [(1, 5), (HALF, FORTY)])
        self.assertEqual(turned_over(FAR, HALF), [(1, 5), (HALF + 2, FORTY)])
        self.assertEqual(turned_over(FAR, FORTY), [(1, 5), (HALF, HALF), (HALF + 2, FORTY - 1)])
        self.assertEqual(turned_over([(1, FORTY)], HALF), [(1, HALF - 1), (HALF + 1, FORTY)])

    def test_place_0(self):
        for row in SOME_ROWS:
            for way in written_ways(row):
                self.assertTrue(told_row(turned_over(way, 0)))
                self.assertEqual(turned_over(way, 0), row)


class RowOf(RefusalCase):
    """[7]"""

    def test_all_small_rows(self):
        for places in rows_within(SMALL):
            shuffled = places[1::2] + places[::-2] if len(places) % 2 else places[::-1]
            self.assertEqual(set(shuffled), set(places))
            for way in [list(shuffled), tuple(shuffled), list(places)]:
                made = row_of(way)
                self.assertTrue(told_row(made))
                self.assertEqual(made, row_from(places))

    def test_far_and_many(self):
        self.assertEqual(row_of([]), [])
        self.assertEqual(row_of([FORTY, 1, FORTY - 1, 3]), [(1, 1), (3, 3), (FORTY - 1, FORTY)])
        self.assertEqual(row_of(list(range(300, 0, -1))), [(1, 300)])
        self.assertEqual(row_of([2 * k for k in range(1, 301)]), [(2 * k, 2 * k) for k in range(1, 301)])

    def test_no_lists_of_unlike_places(self):
        wrong = [
            {}, set(), "", "12", 0, 1, 5, [0], [-1], [1, 0], [1, 1], [3, 1, 2, 3], (2, 2), [FORTY, FORTY], [1, True],
            [False], [1.0], [1, 2.0], ["1"], [1, "2"], [1, None], [(1, 2)], [[1]], [1, [2]], {1}, {1: 1}, range(1, 3),
            iter([1]),
        ]
        for at, thing in enumerate(wrong + anything()):
            with self.subTest(at=at):
                self.refused(errors.NoPlace, row_of, thing)


class About(RefusalCase):
    """[7]"""

    def test_all_small_rows(self):
        for places in rows_within(SMALL):
            row = row_from(places)
            for n in range(last_place(row), SMALL + 4):
                with self.subTest(row=row, n=n):
                    turned = about(row, n)
                    self.assertTrue(told_row(turned))
                    self.assertEqual(turned, row_from(p for p in range(1, n + 1) if n + 1 - p not in places))
                    self.assertIs(is_row(turned), True)
                    self.assertEqual(about(turned, n), row)

    def test_edges(self):
        self.assertEqual(about([], 0), [])
        self.assertEqual(about([], 1), [(1, 1)])
        self.assertEqual(about([(1, 1)], 1), [])
        self.assertEqual(about([(2, 4)], 4), [(4, 4)])

    def test_forty_figures(self):
        self.assertEqual(about([], FORTY), [(1, FORTY)])
        self.assertEqual(about([(1, FORTY)], FORTY), [])
        self.assertEqual(about([(1, 1)], FORTY), [(1, FORTY - 1)])
        self.assertEqual(about([(FORTY, FORTY)], FORTY), [(2, FORTY)])
        self.assertEqual(about(FAR, FORTY), [(FORTY - HALF, FORTY - HALF), (FORTY - HALF + 2, FORTY - 5)])

    def test_no_numbers_of_places(self):
        for at, thing in enumerate(anything() + [3, 0, "", [], [9], (9,)]):
            with self.subTest(at=at):
                self.refused(errors.NoPlaces, about, [(1, 2), (4, 4)], thing)
        self.refused(errors.NoPlaces, about, [(HALF, FORTY)], FORTY - 1)
        self.refused(errors.NoPlaces, about, [], -1)
        self.refused(errors.NoPlaces, about, [], False)
        self.assertEqual(places_of(about([(1, 2), (4, 4)], 4)), {2})


if __name__ == "__main__":
    unittest.main()
