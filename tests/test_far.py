"""Points 16 to 18: far turns, rounds and first times."""

import unittest

from tests.helper import (
    FAR_ROWS, FIFTY, FIFTY_ONE, FORTY, HALF, LONG_PAIRS, NO_PAIRS, NO_ROWS, NO_TURNS, NO_WHOS, THIRTY, RefusalCase,
    lines_within, pair_from, pairs_within, spots, told_pair, turn_of_sets, way_climbed, written_ways,
)
from turntell import errors
from turntell.far import first_time, pair_at, pair_behind, round_of, until_rest
from turntell.lines import how_far, line_of
from turntell.turns import turn

BOTH = ("one", "other")


def contrary(who):
    """The one of whom who is the other."""
    return "other" if who == "one" else "one"


def round_walked(sets, who):
    """All pairs turns by turns come by, up to where the same one turns from the same pair; and the rests."""
    now, turns, pairs, still = (set(sets[0]), set(sets[1])), who, [], []
    while not pairs or (now, turns) != (sets, who):
        pairs.append(pair_from(now))
        behind = turn_of_sets(now, turns)
        still.append(behind == now)
        now, turns = behind, contrary(turns)
    return pairs, still


class PairAt(RefusalCase):
    """[16]"""

    def test_all_small_rows(self):
        for row, pairs in lines_within(7):
            for far, pair in enumerate(pairs):
                told = pair_at(row, far)
                self.assertEqual(told, pair)
                self.assertTrue(told_pair(told))
            self.refused(errors.NoTurns, pair_at, row, len(pairs))

    def test_ends_of_far_lines(self):
        for row in FAR_ROWS + FIFTY_ONE:
            way = way_climbed(row)
            self.assertEqual(pair_at(row, 0), (row, []))
            self.assertEqual(pair_at(row, way), ([], row))
            if row:
                self.assertEqual(pair_at(row, 1), turn((row, []), "other"))
                self.assertEqual(pair_at(row, way - 1), turn(([], row), "one"))
            for more in (1, 2, FORTY, 10 ** 2499):
                self.refused(errors.NoTurns, pair_at, row, way + more)

    def test_one_turn_on(self):
        for row in FAR_ROWS + FIFTY_ONE:
            way = way_climbed(row)
            for far in spots(way):
                pair = pair_at(row, far)
                self.assertTrue(told_pair(pair))
                on = turn(pair, "other" if far % 2 == 0 else "one")
                self.assertEqual(on, pair_at(row, min(far + 1, way)))

    def test_told_back(self):
        for row in FAR_ROWS:
            way = way_climbed(row)
            for far in spots(way) + [way * part // 97 for part in range(1, 97)]:
                pair = pair_at(row, far)
                self.assertEqual((line_of(pair), how_far(pair)), (row, far))

    def test_halfway(self):
        for row in FAR_ROWS + FIFTY_ONE:
            one, other = pair_at(row, way_climbed(row) // 2)
            self.assertEqual(one, other)

    def test_no_rows(self):
        for at, thing in enumerate(NO_ROWS):
            with self.subTest(at=at):
                self.refused(errors.NoRow, pair_at, thing, 0)
                self.refused(errors.NoRow, pair_at, thing, None)

    def test_no_turns(self):
        for at, thing in enumerate(NO_TURNS):
            with self.subTest(at=at):
                self.refused(errors.NoTurns, pair_at, [], thing)
                self.refused(errors.NoTurns, pair_at, [(1, HALF)], thing)
                self.refused(errors.NoTurns, pair_at, FIFTY_ONE[0], thing)


class PairBehind(RefusalCase):
    """[17]"""

    def test_all_small_pairs(self):
        for sets in pairs_within(3):
            for who in BOTH:
                pairs, _ = round_walked(sets, who)
                self.assertEqual(round_of(pair_from(sets)), len(pairs))
                for turns in range(2 * len(pairs) + 3):
                    told = pair_behind(pair_from(sets), who, turns)
                    self.assertEqual(told, pairs[turns % len(pairs)])
                    self.assertTrue(told_pair(told))

    def test_rounds(self):
        for row, pairs in lines_within(6):
            for pair in pairs:
                self.assertEqual(round_of(pair), 2 * len(pairs))
        self.assertEqual(round_of(([], [])), 2)
        self.assertEqual(round_of(([], [(1, FORTY)])), 2 * (2 * FORTY + 1))
        for row in FAR_ROWS:
            way = way_climbed(row)
            for far in spots(way):
                self.assertEqual(round_of(pair_at(row, far)), 2 * way + 2)

    def test_rests_at_the_ends(self):
        for row in FAR_ROWS:
            way = way_climbed(row)
            near, end = (row, []), ([], row)
            self.assertEqual(pair_behind(near, "one", 1), near)
            self.assertEqual(pair_behind(near, "one", 2), pair_at(row, min(1, way)))
            self.assertEqual(pair_behind(near, "other", 1), pair_at(row, min(1, way)))
            self.assertEqual(pair_behind(near, "other", way), end)
            self.assertEqual(pair_behind(near, "other", way + 1), end)
            self.assertEqual(pair_behind(near, "other", way + 2), pair_at(row, max(way - 1, 0)))
            self.assertEqual(pair_behind(near, "one", way + 1), end)
            self.assertEqual(pair_behind(near, "one", way + 2), end)
            self.assertEqual(pair_behind(near, "other", 2 * way + 1), near)
            self.assertEqual(pair_behind(near, "other", 2 * way + 2), near)
            self.assertEqual(pair_behind(end, "other", 1), end)
            self.assertEqual(pair_behind(end, "one", 1), pair_at(row, max(way - 1, 0)))
            self.assertEqual(pair_behind(end, "one", way), near)
            self.assertEqual(pair_behind(end, "one", way + 1), near)
            self.assertEqual(pair_behind(end, "other", way + 1), near)

    def test_from_between(self):
        for row in FAR_ROWS:
            way = way_climbed(row)
            for far in spots(way):
                pair = pair_at(row, far)
                on = "other" if far % 2 == 0 else "one"
                back = contrary(on)
                for who in BOTH:
                    self.assertEqual(pair_behind(pair, who, 0), pair)
                    self.assertEqual(pair_behind(pair, who, 1), turn(pair, who))
                    for rounds in (1, 2, 10 ** 2000):
                        self.assertEqual(pair_behind(pair, who, rounds * (2 * way + 2)), pair)
                        self.assertEqual(pair_behind(pair, who, rounds * (2 * way + 2) + 1), turn(pair, who))
                self.assertEqual(pair_behind(pair, on, way - far), ([], row))
                self.assertEqual(pair_behind(pair, on, way - far + 1), ([], row))
                self.assertEqual(pair_behind(pair, on, 2 * way + 1 - far), (row, []))
                self.assertEqual(pair_behind(pair, back, far), (row, []))
                self.assertEqual(pair_behind(pair, back, far + 1), (row, []))
                self.assertEqual(pair_behind(pair, back, 2 * far + 1), pair)
                self.assertEqual(pair_behind(pair, back, far + 1 + way), ([], row))

    def test_two_numbers_added(self):
        for row in FAR_ROWS:
            way = way_climbed(row)
            for far in spots(way)[::3]:
                pair = pair_at(row, far)
                for who in BOTH:
                    for first in [0, 1, 2, way, way + 1, HALF, 10 ** 2499 + 1]:
                        for more in [0, 1, way // 3, 3 * way + 2, 10 ** 2500 - 1]:
                            due = who if first % 2 == 0 else contrary(who)
                            twice = pair_behind(pair_behind(pair, who, first), due, more)
                            self.assertEqual(twice, pair_behind(pair, who, first + more))

    def test_no_pairs(self):
        for at, thing in enumerate(NO_PAIRS):
            with self.subTest(at=at):
                self.refused(errors.NoPair, pair_behind, thing, "one", 0)
                self.refused(errors.NoPair, pair_behind, thing, None, None)
                self.refused(errors.NoPair, round_of, thing)

    def test_no_whos(self):
        for at, thing in enumerate(NO_WHOS):
            with self.subTest(at=at):
                self.refused(errors.NoWho, pair_behind, ([], []), thing, 0)
                self.refused(errors.NoWho, pair_behind, LONG_PAIRS[0], thing, None)

    def test_no_turns(self):
        for at, thing in enumerate(NO_TURNS):
            with self.subTest(at=at):
                self.refused(errors.NoTurns, pair_behind, ([], []), "one", thing)
                self.refused(errors.NoTurns, pair_behind, LONG_PAIRS[0], "other", thing)

    def test_too_many(self):
        for pair in LONG_PAIRS + [pair_at(row, far) for row in FIFTY_ONE for far in (0, 5, 10 ** 20)]:
            self.refused_many(round_of, pair)
            for who in BOTH:
                for turns in (0, 1, FORTY):
                    self.refused_many(pair_behind, pair, who, turns)
        for row in FIFTY:
            self.assertEqual(pair_behind((row, []), "one", 1), (row, []))


class FirstTime(RefusalCase):
    """[18]"""

    def test_all_small_pairs(self):
        for sets in pairs_within(3):
            for who in BOTH:
                pairs, still = round_walked(sets, who)
                self.assertEqual(until_rest(pair_from(sets), who), still.index(True))
                for others in pairs_within(3):
                    other = pair_from(others)
                    due = pairs.index(other) if other in pairs else None
                    self.assertEqual(first_time(pair_from(sets), who, other), due)

    def test_all_lines_within_seven_places(self):
        for row, pairs in lines_within(7):
            # The round, from the first end on: the other one turns first, and each turn at an end rests once.
            walked = pairs + pairs[::-1]
            for far, pair in enumerate(pairs):
                self.assertEqual(round_of(pair), len(walked))
                for who in BOTH:
                    at = far if (who == "other") == (far % 2 == 0) else len(walked) - 1 - far
                    rest = len(pairs) - 1 - at % len(pairs)
                    self.assertEqual(until_rest(pair, who), rest)
                    turns = far * far + 3 * len(row)
                    behind = walked[(at + turns) % len(walked)]
                    self.assertEqual(pair_behind(pair, who, turns), behind)
                    due = (walked[at:] + walked[:at]).index(behind)
                    self.assertEqual(first_time(pair, who, behind), due)

    def test_by_hand(self):
        near, middle, end = ([(1, 1)], []), ([(1, 1)], [(1, 1)]), ([], [(1, 1)])
        self.assertEqual([first_time(near, "other", pair) for pair in (near, middle, end)], [0, 1, 2])
        self.assertEqual([first_time(near, "one", pair) for pair in (near, middle, end)], [0, 2, 3])
        self.assertEqual([first_time(middle, "one", pair) for pair in (near, middle, end)], [4, 0, 1])
        self.assertEqual([first_time(middle, "other", pair) for pair in (near, middle, end)], [1, 0, 4])
        self.assertEqual([until_rest(near, "one"), until_rest(near, "other")], [0, 2])
        self.assertEqual([until_rest(middle, "one"), until_rest(middle, "other")], [1, 1])
        self.assertEqual([until_rest(([], []), who) for who in BOTH], [0, 0])

    def test_far(self):
        for row in FAR_ROWS:
            way = way_climbed(row)
            some = [(far, pair_at(row, far)) for far in spots(way)]
            for far, pair in some:
                on = "other" if far % 2 == 0 else "one"
                self.assertEqual(until_rest(pair, on), way - far)
                self.assertEqual(until_rest(pair, contrary(on)), far)
                for there, other in some:
                    past = there - far if there >= far else 2 * way + 1 - far - there
                    short = far - there if there <= far else far + there + 1
                    self.assertEqual(first_time(pair, on, other), past)
                    self.assertEqual(first_time(pair, contrary(on), other), short)
                    self.assertEqual(pair_behind(pair, on, past), other)
                self.assertIsNone(first_time(pair, on, ([], [(7, 7), (9, 12)])))
                self.assertIsNone(first_time(([(7, 7), (9, 12)], []), on, pair))

    def test_no_pairs(self):
        for at, thing in enumerate(NO_PAIRS):
            with self.subTest(at=at):
                self.refused(errors.NoPair, first_time, thing, None, None)
                self.refused(errors.NoPair, first_time, ([], []), "one", thing)
                self.refused(errors.NoPair, first_time, LONG_PAIRS[0], "one", thing)
                self.refused(errors.NoPair, until_rest, thing, "one")
                self.refused(errors.NoPair, until_rest, thing, 1)

    def test_no_whos(self):
        for at, thing in enumerate(NO_WHOS):
            with self.subTest(at=at):
                self.refused(errors.NoWho, first_time, ([], []), thing, None)
                self.refused(errors.NoWho, first_time, LONG_PAIRS[0], thing, ([], []))
                self.refused(errors.NoWho, until_rest, ([], []), thing)
                self.refused(errors.NoWho, until_rest, LONG_PAIRS[0], thing)

    def test_too_many_whatever_else_is_clear(self):
        plain = ([(1, 2)], [(5, 5)])
        for pair in LONG_PAIRS:
            for who in BOTH:
                self.refused_many(first_time, pair, who, pair)
                self.refused_many(first_time, pair, who, plain)
                self.refused_many(first_time, plain, who, pair)
                self.refused_many(until_rest, pair, who)


class Written(RefusalCase):
    def test_rows_by_lists_and_tuples(self):
        row = THIRTY[3]
        way = way_climbed(row)
        one, other = pair_at(row, way // 3)
        for side, beside, line in zip(written_ways(one), written_ways(other), written_ways(row)):
            self.assertEqual(pair_at(line, way // 3), (one, other))
            for pair in [(side, beside), [side, beside]]:
                self.assertEqual(round_of(pair), 2 * way + 2)
                for who in BOTH:
                    self.assertEqual(pair_behind(pair, who, 9), pair_behind((one, other), who, 9))
                    self.assertEqual(until_rest(pair, who), until_rest((one, other), who))
                    self.assertEqual(first_time(pair, who, (one, other)), 0)
                    self.assertEqual(first_time((one, other), who, pair), 0)


if __name__ == "__main__":
    unittest.main()
