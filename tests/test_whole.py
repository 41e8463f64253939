"""Point 4: the promise of the whole, across the files."""

import unittest

from tests.helper import FAR_ROWS, FIFTY, THIRTY, lines_within, pair_from, pairs_within, row_from, rows_within, spots
from turntell.alone import alone_behind, halfway, row_with, runs, step, turns_alone
from turntell.far import first_time, pair_at, pair_behind, round_of, until_rest
from turntell.ladders import ladder, row_by, way_of
from turntell.lines import ahead, how_far, line_of, sum_kept, word_between
from turntell.rows import added, last_place
from turntell.turns import by_turns, done, rests, turn


def leads_on(pair):
    """Who leads on from a pair."""
    return "one" if how_far(pair) % 2 else "other"


class Lines(unittest.TestCase):
    def test_each_turn_undoes_itself(self):
        for sets in pairs_within(3):
            for who in ("one", "other"):
                self.assertEqual(turn(turn(pair_from(sets), who), who), pair_from(sets))

    def test_every_pair_is_on_one_line_and_comes_there_once(self):
        found = [str(pair) for _, pairs in lines_within(5) for pair in pairs]
        self.assertEqual(len(found), 4 ** 5)
        self.assertEqual(len(set(found)), 4 ** 5)

    def test_to_both_ends(self):
        for sets in pairs_within(4):
            pair = pair_from(sets)
            row, far = line_of(pair), how_far(pair)
            on = leads_on(pair)
            back = "one" if on == "other" else "other"
            ahead_of = by_turns(pair, first=on, many=way_of(row) - far + 1)
            behind = by_turns(pair, first=back, many=far + 1)
            self.assertEqual(ahead_of[-2:], [([], row)] * 2)
            self.assertEqual(behind[-2:], [(row, [])] * 2)
            self.assertEqual([how_far(now) for now in ahead_of[:-1]], list(range(far, way_of(row) + 1)))
            self.assertEqual([how_far(now) for now in behind[:-1]], list(range(far, -1, -1)))

    def test_a_turn_of_who_leads_on_is_one_ahead(self):
        for row in FAR_ROWS:
            for far in spots(way_of(row)):
                pair = pair_at(row, far)
                if far < way_of(row):
                    on = turn(pair, leads_on(pair))
                    self.assertEqual(ahead(pair, on), 1)
                    self.assertEqual((line_of(on), how_far(on)), (row, far + 1))
                    self.assertEqual(sum_kept(on), sum_kept(pair))
                    self.assertEqual(done(pair, word_between(pair, on)), on)
                else:
                    self.assertIn(leads_on(pair), rests(pair))

    def test_two_numbers_tell_a_line(self):
        for row in FAR_ROWS:
            n = last_place(row)
            for far in spots(way_of(row)):
                line = line_of(pair_at(row, far))
                self.assertEqual(row_by(*ladder(line, n)), (row, n))
        told = {ladder(row_from(places), 6) for places in rows_within(6)}
        self.assertEqual(len(told), 2 ** 6)

    def test_rounds(self):
        for row in THIRTY + FIFTY:
            for far in spots(way_of(row)):
                pair = pair_at(row, far)
                for who in ("one", "other"):
                    many = until_rest(pair, who)
                    still = pair_behind(pair, who, many)
                    self.assertEqual(pair_behind(pair, who, many + 1), still)
                    self.assertEqual(first_time(pair, who, still), many)
                    self.assertEqual(pair_behind(pair, who, round_of(pair)), pair)


class Alone(unittest.TestCase):
    def test_halfway_tells_the_line(self):
        for row in FAR_ROWS:
            pair = halfway(row)
            self.assertEqual(pair, pair_at(row, way_of(row) // 2))
            self.assertEqual(line_of(pair), row)
            self.assertEqual(runs(pair[0]), row)
            self.assertEqual(turns_alone(pair[0]), added(row))
            self.assertEqual(sum_kept(pair), turns_alone(pair[0]))

    def test_one_turn_alone_makes_the_line_one_less(self):
        for row in FAR_ROWS:
            if row:
                now = step(row_with(row))
                self.assertEqual(added(runs(now)), added(row) - 1)
                self.assertEqual(alone_behind(now, added(row) - 1), [])


if __name__ == "__main__":
    unittest.main()
