"""Point 4: the promise of the whole, across the files."""

import unittest

from tests.helper import (
    FAR_ROWS, FIFTY, FORTY, KINDS, THIRTY, leader, lines_within, pair_from, pairs_within, row_from, rows_within, spots,
)
from turntell import kinds
from turntell.alone import alone_behind, halfway, row_with, runs, step, turns_alone
from turntell.far import first_time, pair_at, pair_behind, round_of, until_rest
from turntell.ladders import ladder, row_by, way_of
from turntell.lines import ahead, how_far, line_of, sum_kept, word_between
from turntell.numbered import many_of, number_of, pair_of
from turntell.rows import about, added, heads, last_place
from turntell.tables import Table
from turntell.texts import read_deeds, read_pair, read_row, show_deeds, show_pair, show_row
from turntell.turns import by_turns, done, rests, turn


def leads_on(pair):
    """Who leads on from a pair."""
    return "one" if how_far(pair) % 2 else "other"


class Lines(unittest.TestCase):
    def test_each_turn_undoes_itself(self):
        for sets in pairs_within(3):
            for who in ("one", "other"):
                self.assertEqual(turn(turn(pair_from(sets), who), who), pair_from(sets))

    def test_every_pair_is_on_one_line_and_comes_there_once(self):
        found = [str(pair) for _, pairs in lines_within(5) for pair in pairs]
        self.assertEqual(len(found), 4 ** 5)
        self.assertEqual(len(set(found)), 4 ** 5)

    def test_to_both_ends(self):
        for sets in pairs_within(4):
            pair = pair_from(sets)
            row, far = line_of(pair), how_far(pair)
            on = leads_on(pair)
            back = "one" if on == "other" else "other"
            ahead_of = by_turns(pair, first=on, many=way_of(row) - far + 1)
            behind = by_turns(pair, first=back, many=far + 1)
            self.assertEqual(ahead_of[-2:], [([], row)] * 2)
            self.assertEqual(behind[-2:], [(row, [])] * 2)
            self.assertEqual([how_far(now) for now in ahead_of[:-1]], list(range(far, way_of(row) + 1)))
            self.assertEqual([how_far(now) for now in behind[:-1]], list(range(far, -1, -1)))

    def test_a_turn_of_who_leads_on_is_one_ahead(self):
        for row in FAR_ROWS:
            for far in spots(way_of(row)):
                pair = pair_at(row, far)
                if far < way_of(row):
                    on = turn(pair, leads_on(pair))
                    self.assertEqual(ahead(pair, on), 1)
                    self.assertEqual((line_of(on), how_far(on)), (row, far + 1))
                    self.assertEqual(sum_kept(on), sum_kept(pair))
                    self.assertEqual(done(pair, word_between(pair, on)), on)
                else:
                    self.assertIn(leads_on(pair), rests(pair))

    def test_two_numbers_tell_a_line(self):
        for row in FAR_ROWS:
            n = last_place(row)
            for far in spots(way_of(row)):
                line = line_of(pair_at(row, far))
                self.assertEqual(row_by(*ladder(line, n)), (row, n))
        told = {ladder(row_from(places), 6) for places in rows_within(6)}
        self.assertEqual(len(told), 2 ** 6)

    def test_rounds(self):
        for row in THIRTY + FIFTY:
            for far in spots(way_of(row)):
                pair = pair_at(row, far)
                for who in ("one", "other"):
                    many = until_rest(pair, who)
                    still = pair_behind(pair, who, many)
                    self.assertEqual(pair_behind(pair, who, many + 1), still)
                    self.assertEqual(first_time(pair, who, still), many)
                    self.assertEqual(pair_behind(pair, who, round_of(pair)), pair)


class Within(unittest.TestCase):
    def test_kinds_are_one_kind_with_heads_beyond(self):
        # A head of the other one that is never turned counts for r, one of the one for s.
        for n in (1, 2, 3, 4):
            for sets in pairs_within(n):
                for r, s in KINDS:
                    pair = pair_from((sets[0] | {n + 9} if s else sets[0], sets[1] | {n + 9} if r else sets[1]))
                    for who in ("one", "other"):
                        counted = heads(pair[1] if who == "one" else pair[0])
                        told = kinds.turn_within(n, (r, s), pair_from(sets), who)
                        due = turn(pair, who) if counted <= n else pair
                        beyond = {"one": [(n + 9, n + 9)] if s else [], "other": [(n + 9, n + 9)] if r else []}
                        self.assertEqual(due, (told[0] + beyond["one"], told[1] + beyond["other"]))

    def test_every_kind_has_each_pair_once(self):
        for n in (1, 2, 3):
            for kind in KINDS:
                rows = [row_from(places) for places in rows_within(n)]
                pairs = [kinds.pair_within(n, kind, row, far) for row in rows
                         for far in range(kinds.pairs_within(n, kind, row))]
                self.assertEqual(sorted(pairs), sorted(pair_from(sets) for sets in pairs_within(n)))

    def test_ladders_are_numbers_of_pairs(self):
        for row in FAR_ROWS:
            for n in (max(last_place(row), 1), FORTY + last_place(row)):
                first, second = ladder(row, n)
                self.assertEqual([kinds.pairs_within(n, kind, row) for kind in KINDS], [first, second, second, first])
                self.assertEqual(first, way_of(row) + 1)

    def test_all_counts_to_the_other_end(self):
        for row in THIRTY:
            n = last_place(row) + 3
            for kind in KINDS:
                many = kinds.pairs_within(n, kind, row)
                first, last = kinds.ends_within(n, kind, row)
                self.assertEqual(kinds.line_within(n, kind, first), (row, 0))
                self.assertEqual(kinds.line_within(n, kind, last), (row, many - 1))
            self.assertEqual(kinds.ends_within(n, (1, 1), about(row, n))[0], (row, [(1, n)]))

    def test_numbers_of_pairs(self):
        for number in [0, 1, 4 ** 150 // 3, 4 ** 150 // 7 * 5, 4 ** 150 - 1]:
            pair = pair_of(150, number)
            self.assertEqual(number_of(150, pair), number)
            on = turn(pair, "other")
            self.assertIn(number_of(150, on) - number, (-1, 0, 1))
            self.assertEqual(turn(on, "other"), pair)
        for row, pairs in lines_within(4):
            text = "".join("h" if any(low <= place <= high for low, high in row) else "t" for place in range(1, 5))
            self.assertEqual(many_of(4, text), len(pairs))
            self.assertEqual([number_of(4, pair) - number_of(4, (row, [])) for pair in pairs],
                             [kinds.line_within(4, (0, 0), pair)[1] for pair in pairs])
            self.assertEqual([how_far(pair) for pair in pairs], [kinds.line_within(4, (0, 0), pair)[1] for pair in pairs])

    def test_one_kind_leads_on_as_told(self):
        for kind in KINDS:
            for row, n in [(THIRTY[1], 60), (THIRTY[3], FORTY), ([], FORTY), ([(1, FORTY)], FORTY)]:
                many = kinds.pairs_within(n, kind, row)
                for far in spots(many - 1):
                    pair = kinds.pair_within(n, kind, row, far)
                    on = kinds.turn_within(n, kind, pair, leader(kind, far))
                    self.assertEqual(kinds.line_within(n, kind, on), (row, min(far + 1, many - 1)))


class Tables(unittest.TestCase):
    def test_written_read_and_done_anew(self):
        for row in THIRTY + FIFTY[:1]:
            first = pair_at(row, way_of(row) // 5)
            table = Table(first)
            table.gone("one", way_of(row))
            table.turned("other")
            table.by_hand("one", FORTY)
            table.by_hand("one", FORTY)
            table.gone("other", 3)
            table.set_to((row, []))
            table.gone("other", way_of(row) // 2)
            deeds = read_deeds(show_deeds(table.deeds()))
            self.assertEqual(deeds, table.deeds())
            other = Table(read_pair(show_pair(first)))
            for name, *handed in deeds:
                getattr(other, name)(*handed)
            self.assertEqual(other, table)
            self.assertEqual(other.deeds(), table.deeds())
            self.assertEqual(other.pair(), halfway(row))
            self.assertEqual(read_row(show_row(other.line())), row)

    def test_gone_as_far_as_told(self):
        for row in THIRTY + FIFTY:
            way = way_of(row)
            for here in spots(way)[::3]:
                table = Table(pair_at(row, here))
                for there in spots(way)[::4]:
                    other = pair_at(row, there)
                    table.gone("one", first_time(table.pair(), "one", other))
                    self.assertEqual(table, Table(other))
                    self.assertEqual((table.line(), table.far()), (row, there))
                self.assertEqual(table.lines(), [(0, row)])


class Alone(unittest.TestCase):
    def test_halfway_tells_the_line(self):
        for row in FAR_ROWS:
            pair = halfway(row)
            self.assertEqual(pair, pair_at(row, way_of(row) // 2))
            self.assertEqual(line_of(pair), row)
            self.assertEqual(runs(pair[0]), row)
            self.assertEqual(turns_alone(pair[0]), added(row))
            self.assertEqual(sum_kept(pair), turns_alone(pair[0]))

    def test_one_turn_alone_makes_the_line_one_less(self):
        for row in FAR_ROWS:
            if row:
                now = step(row_with(row))
                self.assertEqual(added(runs(now)), added(row) - 1)
                self.assertEqual(alone_behind(now, added(row) - 1), [])


if __name__ == "__main__":
    unittest.main()
