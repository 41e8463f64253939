"""Points 19 to 22: one row alone."""

import unittest
from itertools import groupby

from tests.helper import (
    FAR_ROWS, FIFTY_ONE, FORTY, HALF, NO_ROWS, NO_TURNS, THIRTY, RefusalCase, alone_walked, anything, line_walked,
    places_of, row_from, rows_within, told_pair, told_row, written_ways,
)
from turntell import errors
from turntell.alone import (
    alone_behind, comers, halfway, meeting, row_with, runs, step, steps, turns_alone,
)
from turntell.rows import added, heads, last_place, row_of, turned_over

SMALL = 7
ROWS = FAR_ROWS + FIFTY_ONE + [row_of([HALF + 3 * k for k in range(300)])]


def runs_walked(places):
    """The runs of a row, turn by turn: how many turns go one way, one behind the other."""
    now, ways = set(places), []
    while now:
        ways.append(len(now) in now)
        now = now ^ {len(now)}
    return [len(list(part)) for _, part in groupby(ways)]


class Step(RefusalCase):
    """[19]"""

    def test_all_small_rows(self):
        for places in rows_within(SMALL):
            walked = alone_walked(places)
            row = row_from(places)
            self.assertEqual(step(row), walked[min(1, len(walked) - 1)])
            self.assertTrue(told_row(step(row)))
            due = (walked + [[]] * 40)[:41]
            told = steps(row, many=40)
            self.assertEqual(told, due)
            self.assertIs(type(told), list)
            self.assertTrue(all(map(told_row, told)))

    def test_rest(self):
        self.assertEqual(step([]), [])
        self.assertEqual(steps([], many=3), [[], [], [], []])

    def test_forty_figures(self):
        self.assertEqual(step([(1, FORTY)]), [(1, FORTY - 1)])
        self.assertEqual(step([(HALF, FORTY)]), [(HALF, FORTY - HALF), (FORTY - HALF + 2, FORTY)])
        self.assertEqual(step([(FORTY, FORTY)]), [(1, 1), (FORTY, FORTY)])
        for row in ROWS:
            self.assertEqual(step(row), turned_over(row, heads(row)))

    def test_how_many(self):
        row = [(1, 5), (HALF, HALF + 9)]
        self.assertEqual(steps(row), steps(row, many=10))
        self.assertEqual(len(steps(row)), 11)
        self.assertEqual(steps(row, many=0), [row])
        told = steps(row, many=299)
        self.assertEqual(len(told), 300)
        self.assertEqual(told[0], row)
        for now, behind in zip(told, told[1:]):
            self.assertEqual(step(now), behind)

    def test_no_numbers(self):
        for at, thing in enumerate(anything() + [300, 301, FORTY, 10 ** 2500, "", "10", [], [1], (1,)]):
            with self.subTest(at=at):
                self.refused(errors.NoNumber, steps, [(1, 2)], many=thing)
                self.refused(errors.NoNumber, steps, [], many=thing)

    def test_no_rows(self):
        calls = [
            step, steps, lambda row: steps(row, many=None), comers, runs, row_with, turns_alone, halfway,
            lambda row: alone_behind(row, 0), lambda row: alone_behind(row, None), lambda row: meeting(row, []),
            lambda row: meeting([], row), lambda row: meeting(row, None), lambda row: meeting([(1, 2)], row),
        ]
        for number, call in enumerate(calls):
            for at, thing in enumerate(NO_ROWS):
                with self.subTest(call=number, at=at):
                    self.refused(errors.NoRow, call, thing)


class Comers(RefusalCase):
    """[19]"""

    def test_all_small_rows(self):
        # Rows of one place more come here, too: those of eight heads to all seven.
        come = {places: [] for places in rows_within(SMALL)}
        for places in rows_within(SMALL + 1):
            behind = tuple(sorted(set(places) ^ ({len(places)} - {0})))
            if places and behind in come:
                come[behind].append(row_from(places))
        for places, due in come.items():
            told = comers(row_from(places))
            self.assertEqual(told, sorted(due))
            self.assertIs(type(told), list)
            self.assertTrue(all(map(told_row, told)))
        self.assertEqual({len(due) for due in come.values()}, {0, 1, 2})

    def test_two_one_and_none(self):
        self.assertEqual(comers([]), [[(1, 1)]])
        self.assertEqual(comers([(1, 1)]), [[(1, 2)]])
        self.assertEqual(comers([(2, 2)]), [])
        self.assertEqual(comers([(1, 2)]), [[(1, 3)], [(2, 2)]])
        self.assertEqual(comers([(1, 1), (3, 3)]), [[(3, 3)]])
        self.assertEqual(comers([(3, 4)]), [])
        self.assertEqual(comers([(1, 1), (4, 5)]), [])
        self.assertEqual(comers([(1, FORTY - 1)]), [[(1, FORTY - 3), (FORTY - 1, FORTY - 1)], [(1, FORTY)]])

    def test_forty_figures(self):
        for row in ROWS:
            told = comers(row)
            self.assertEqual(told, sorted(told))
            many = heads(row)
            due = [turned_over(row, place) for place in (many - 1, many + 1) if place > 0]
            due = [came for came in due if step(came) == row]
            self.assertEqual(told, sorted(due))
            if row:
                self.assertIn(row, comers(step(row)))


class Runs(RefusalCase):
    """[20]"""

    def test_all_small_rows(self):
        for places in rows_within(SMALL):
            row = row_from(places)
            many = runs_walked(places)
            self.assertEqual(many, sorted(set(many)))
            self.assertEqual(runs(row), row_from(many))
            self.assertTrue(told_row(runs(row)))
            self.assertEqual(turns_alone(row), len(alone_walked(places)) - 1)
            self.assertEqual(turns_alone(row), sum(many))
            self.assertEqual(runs(row_with(row)), row)
            self.assertEqual(row_with(runs(row)), row)
            self.assertTrue(told_row(row_with(row)))
            self.assertEqual(runs_walked(places_of(row_with(row))), list(places))

    def test_further_places(self):
        for places in [(12,), (1, 12), (30, 31, 32, 33), (2, 3, 5, 7, 11, 13, 17), tuple(range(9, 40, 3)), (4, 40)]:
            row = row_from(places)
            self.assertEqual(runs(row), row_from(runs_walked(places)))
            self.assertEqual(runs_walked(places_of(row_with(row))), list(places))

    def test_by_hand(self):
        self.assertEqual([runs([]), row_with([]), turns_alone([])], [[], [], 0])
        self.assertEqual(runs([(1, 5)]), [(5, 5)])
        self.assertEqual(row_with([(FORTY, FORTY)]), [(1, FORTY)])
        self.assertEqual(runs([(FORTY, FORTY)]), [(FORTY - 1, FORTY)])
        self.assertEqual(turns_alone([(FORTY, FORTY)]), 2 * FORTY - 1)
        self.assertEqual(turns_alone([(1, FORTY)]), FORTY)

    def test_forty_figures(self):
        for row in ROWS:
            told, back = runs(row), row_with(row)
            self.assertTrue(told_row(told))
            self.assertTrue(told_row(back))
            self.assertEqual(row_with(told), row)
            self.assertEqual(runs(back), row)
            self.assertEqual(last_place(told), last_place(row))
            self.assertEqual(added(told), 2 * added(row) - heads(row) ** 2)
            self.assertEqual(turns_alone(row), added(told))
            self.assertEqual(turns_alone(back), added(row))

    def test_each_turn_makes_the_least_run_one_less(self):
        for row in ROWS:
            for now in steps(row, many=30):
                if now:
                    told = runs(now)
                    least = told[0][0]
                    less = turned_over(turned_over(told, least), least - 1)
                    self.assertEqual(runs(step(now)), less)
                    down = heads(step(now)) < heads(now)
                    self.assertEqual(down, heads(told) % 2 == 1)


class AloneBehind(RefusalCase):
    """[21]"""

    def test_all_small_rows(self):
        for places in rows_within(SMALL):
            row = row_from(places)
            walked = alone_walked(places)
            for turns in range(len(walked) + 3):
                told = alone_behind(row, turns)
                self.assertEqual(told, (walked + [[]] * 4)[turns])
                self.assertTrue(told_row(told))

    def test_forty_figures(self):
        for row in ROWS:
            whole = turns_alone(row)
            told = steps(row, many=20)
            self.assertEqual([alone_behind(row, turns) for turns in range(21)], told)
            for turns in [whole // 7, whole // 3, whole // 2, whole * 9 // 10, whole - 2]:
                if turns >= 0:
                    now = alone_behind(row, turns)
                    self.assertTrue(told_row(now))
                    self.assertEqual(turns_alone(now), whole - turns)
                    self.assertEqual(alone_behind(row, turns + 1), step(now))
                    self.assertEqual(alone_behind(now, whole // 11), alone_behind(row, turns + whole // 11))

    def test_just_so_many_fewer_and_more(self):
        for row in ROWS:
            whole = turns_alone(row)
            self.assertEqual(alone_behind(row, whole), [])
            for more in (1, 2, FORTY, 10 ** 2500 - 1):
                self.assertEqual(alone_behind(row, whole + more), [])
            if row:
                self.assertEqual(alone_behind(row, whole - 1), [(1, 1)])

    def test_whole_runs(self):
        row = row_with([(HALF, HALF + 9), (HALF + 20, FORTY)])
        turns = 0
        for gone in range(10):
            self.assertEqual(last_place(runs(alone_behind(row, turns))), FORTY)
            self.assertEqual(runs(alone_behind(row, turns))[0], (HALF + gone, HALF + 9))
            self.assertEqual(runs(alone_behind(row, turns + 1))[0][0], HALF + gone - 1)
            self.assertEqual(runs(alone_behind(row, turns + HALF + gone - 1))[0], (1, 1))
            turns += HALF + gone
        self.assertEqual(runs(alone_behind(row, turns)), [(HALF + 20, FORTY)])

    def test_no_turns(self):
        for at, thing in enumerate(NO_TURNS):
            with self.subTest(at=at):
                self.refused(errors.NoTurns, alone_behind, [], thing)
                self.refused(errors.NoTurns, alone_behind, [(HALF, FORTY)], thing)


class Meeting(RefusalCase):
    """[21]"""

    def test_all_small_rows(self):
        some = [(row_from(places), alone_walked(places)) for places in rows_within(SMALL)]
        for row, walked in some:
            for other, beside in some:
                turns = next(turns for turns, now in enumerate(walked) if now in beside)
                told = meeting(row, other)
                self.assertEqual(told, (walked[turns], turns, beside.index(walked[turns])))
                self.assertIs(type(told), tuple)
                self.assertTrue(told_row(told[0]))

    def test_forty_figures(self):
        for row in ROWS:
            for other in ROWS:
                told, turns, others = meeting(row, other)
                self.assertTrue(told_row(told))
                self.assertEqual(meeting(other, row), (told, others, turns))
                self.assertEqual(alone_behind(row, turns), told)
                self.assertEqual(alone_behind(other, others), told)
                if turns > 0 and others > 0:
                    self.assertNotEqual(alone_behind(row, turns - 1), alone_behind(other, others - 1))

    def test_itself_and_one_that_it_comes_to(self):
        for row in ROWS:
            whole = turns_alone(row)
            self.assertEqual(meeting(row, row), (row, 0, 0))
            for turns in {0, 1, 2, whole // 2, whole // 3, whole - 1, whole}:
                if 0 <= turns <= whole:
                    now = alone_behind(row, turns)
                    self.assertEqual(meeting(row, now), (now, turns, 0))
                    self.assertEqual(meeting(now, row), (now, 0, turns))

    def test_no_heads(self):
        self.assertEqual(meeting([], []), ([], 0, 0))
        self.assertEqual(meeting([(2, 2)], []), ([], 3, 0))
        self.assertEqual(meeting([], [(1, FORTY)]), ([], 0, FORTY))

    def test_by_runs(self):
        one, other = row_with([(1, 3), (7, 9)]), row_with([(2, 2), (5, 5), (7, 9)])
        self.assertEqual(meeting(one, other), (row_with([(3, 3), (7, 9)]), 3, 4))
        one, other = row_with([(1, 3), (5, 9)]), row_with([(4, 4), (6, 9)])
        self.assertEqual(meeting(one, other), (row_with([(4, 4), (6, 9)]), 7, 0))
        one, other = row_with([(HALF, HALF + 1)]), row_with([(3, 3), (HALF + 1, HALF + 1)])
        self.assertEqual(meeting(one, other), (row_with([(3, 3), (HALF + 1, HALF + 1)]), HALF - 3, 0))


class Halfway(RefusalCase):
    """[22]"""

    def test_all_small_rows(self):
        for places in rows_within(SMALL):
            row = row_from(places)
            walked = line_walked(places)
            told = halfway(row)
            self.assertTrue(told_pair(told))
            self.assertEqual(told, walked[len(walked) // 2])
            self.assertEqual(told, (row_with(row), row_with(row)))

    def test_forty_figures(self):
        for row in ROWS:
            one, other = halfway(row)
            self.assertEqual(one, other)
            self.assertIsNot(one, other)
            self.assertEqual(one, row_with(row))
        self.assertEqual(halfway([]), ([], []))
        self.assertEqual(halfway([(FORTY, FORTY)]), ([(1, FORTY)], [(1, FORTY)]))


class Written(RefusalCase):
    def test_rows_by_lists_and_tuples(self):
        for row in [THIRTY[3], [(1, 1), (3, 5)], []]:
            for way in written_ways(row):
                for deed in (step, steps, comers, runs, row_with, turns_alone, halfway):
                    self.assertEqual(deed(way), deed(row))
                self.assertEqual(alone_behind(way, HALF), alone_behind(row, HALF))
                self.assertEqual(meeting(way, [[4, 9]]), meeting(row, [(4, 9)]))
                self.assertEqual(meeting([[4, 9]], way), meeting([(4, 9)], row))


if __name__ == "__main__":
    unittest.main()
