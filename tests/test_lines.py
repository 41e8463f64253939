"""Points 13 to 15: lines, how far a pair is on one, and the words between pairs."""

import unittest

from tests.helper import (
    FAR_ROWS, FIFTY, FIFTY_ONE, FORTY, HALF, LONG_PAIRS, NO_PAIRS, THIRTY, RefusalCase, line_walked, lines_within,
    pair_from, pairs_within, row_from, spots, told_row, way_climbed, written_ways,
)
from turntell import errors
from turntell.far import pair_at
from turntell.lines import ahead, how_far, line_of, sum_kept, word_between
from turntell.rows import added, last_place
from turntell.turns import done, least_word, rests, turn

SMALL = 7


class LineOf(RefusalCase):
    """[13]"""

    def test_all_small_pairs(self):
        come_by = 0
        for row, pairs in lines_within(SMALL):
            with self.subTest(row=row):
                self.assertEqual(pairs[-1], ([], row))
                for far, pair in enumerate(pairs):
                    self.assertEqual(line_of(pair), row)
                    self.assertEqual(how_far(pair), far)
                come_by += len(pairs)
        self.assertEqual(come_by, 4 ** SMALL)

    def test_kinds(self):
        for pair in [([], []), ([(1, 3)], [(2, 2)]), ([(HALF, FORTY)], [])]:
            self.assertTrue(told_row(line_of(pair)))
            self.assertIs(type(how_far(pair)), int)

    def test_further_places(self):
        for places in [(1, 5, 9), (2, 3, 4, 8, 10), (10,), (1, 2, 3, 4, 5, 6, 7, 8, 9), (3, 11), (2, 4, 6, 8)]:
            for far, pair in enumerate(line_walked(places)):
                self.assertEqual((line_of(pair), how_far(pair)), (row_from(places), far))

    def test_ends_and_those_beside_them(self):
        for row in FAR_ROWS:
            way = way_climbed(row)
            self.assertEqual((line_of((row, [])), how_far((row, []))), (row, 0))
            self.assertEqual((line_of(([], row)), how_far(([], row))), (row, way))
            if row:
                first, last = turn((row, []), "other"), turn(([], row), "one")
                self.assertEqual((line_of(first), how_far(first)), (row, 1))
                self.assertEqual((line_of(last), how_far(last)), (row, way - 1))

    def test_who_leads_on(self):
        for row in FAR_ROWS:
            way = way_climbed(row)
            for far in spots(way):
                pair = pair_at(row, far)
                self.assertEqual((line_of(pair), how_far(pair)), (row, far))
                on, back = ("other", "one") if far % 2 == 0 else ("one", "other")
                self.assertEqual(how_far(turn(pair, on)), min(far + 1, way))
                self.assertEqual(how_far(turn(pair, back)), max(far - 1, 0))
                self.assertEqual(rests(pair), ["one"] * (far == 0) + ["other"] * (far == way))

    def test_no_coin_beyond_the_last_place(self):
        for row in FAR_ROWS:
            for far in spots(way_climbed(row)):
                self.assertEqual(max(map(last_place, pair_at(row, far))), last_place(row))

    def test_alike_rows_and_no_heads(self):
        self.assertEqual((line_of(([], [])), how_far(([], []))), ([], 0))
        for row in THIRTY:
            self.assertEqual(how_far((row, row)) * 2, way_climbed(line_of((row, row))))

    def test_fifty_stretches_and_one_more(self):
        for row in FIFTY:
            for far in spots(way_climbed(row)):
                self.assertEqual(line_of(pair_at(row, far)), row)
        for row in FIFTY_ONE:
            for far in spots(way_climbed(row)):
                self.refused_many(line_of, pair_at(row, far))
                self.refused_many(how_far, pair_at(row, far))
        for pair in LONG_PAIRS:
            self.refused_many(line_of, pair)
            self.refused_many(how_far, pair)
        self.assertEqual(line_of(([(51, 100)], [(1, 50)])), [(2 * k, 2 * k) for k in range(1, 51)])
        self.refused_many(line_of, ([(52, 102)], [(1, 51)]))

    def test_no_pairs(self):
        for at, thing in enumerate(NO_PAIRS):
            for deed in (line_of, how_far, sum_kept):
                with self.subTest(deed=deed.__name__, at=at):
                    self.refused(errors.NoPair, deed, thing)


class Ahead(RefusalCase):
    """[14]"""

    def test_all_small_pairs(self):
        where = {}
        for number, (row, pairs) in enumerate(lines_within(3)):
            where.update({str(pair): (number, far) for far, pair in enumerate(pairs)})
        for one in pairs_within(3):
            for other in pairs_within(3):
                first, second = pair_from(one), pair_from(other)
                here, there = where[str(first)], where[str(second)]
                due = there[1] - here[1] if here[0] == there[0] else None
                self.assertEqual(ahead(first, second), due)
                word = word_between(first, second)
                if due is None:
                    self.assertIsNone(word)
                else:
                    self.assertEqual(len(word), abs(due))
                    self.assertEqual(done(first, word), second)
                    self.assertEqual(least_word(word), word)

    def test_all_lines_within_seven_places(self):
        before = []
        for _, pairs in lines_within(7):
            for far, pair in enumerate(pairs):
                there = far * far % len(pairs)
                self.assertEqual(ahead(pair, pairs[there]), there - far)
                word = word_between(pair, pairs[there])
                self.assertEqual(len(word), abs(there - far))
                self.assertEqual(done(pair, word), pairs[there])
                if before:
                    self.assertIsNone(ahead(pair, before[far % len(before)]))
                    self.assertIsNone(word_between(before[far % len(before)], pair))
            before = pairs

    def test_by_hand(self):
        self.assertEqual(ahead(([(1, 1)], []), ([], [(1, 1)])), 2)
        self.assertEqual(ahead(([], [(1, 1)]), ([(1, 1)], [])), -2)
        self.assertEqual(word_between(([(1, 1)], []), ([], [(1, 1)])), "21")
        self.assertEqual(word_between(([], [(1, 1)]), ([(1, 1)], [])), "12")
        self.assertEqual(word_between(([(1, 1)], [(1, 1)]), ([(1, 1)], [])), "2")
        self.assertEqual(word_between(([(1, 1)], [(1, 1)]), ([], [(1, 1)])), "1")

    def test_far(self):
        for row in FAR_ROWS:
            way = way_climbed(row)
            for far in spots(way):
                pair = pair_at(row, far)
                self.assertEqual(ahead(pair, pair), 0)
                self.assertEqual(word_between(pair, pair), "")
                self.assertEqual(ahead((row, []), pair), far)
                self.assertEqual(ahead(pair, (row, [])), -far)
                self.assertEqual(ahead(pair, ([], row)), way - far)
                self.assertEqual(ahead(([], row), pair), far - way)
                self.assertIsNone(ahead(pair, ([], [(7, 7), (9, 12)])))
                self.assertIsNone(ahead(([], [(7, 7), (9, 12)]), pair))
                self.assertIsNone(word_between(([(7, 7), (9, 12)], []), pair))

    def test_thousand_signs_and_one_more(self):
        for row in [[(1, 600)], [(1, HALF)], [(1, 5), (HALF, HALF), (HALF + 2, FORTY)], THIRTY[3]]:
            way = way_climbed(row)
            for far in [0, 1, way - 1001, way - 1002, (way - 1001) // 2]:
                here, there, beyond = pair_at(row, far), pair_at(row, far + 1000), pair_at(row, far + 1001)
                word = word_between(here, there)
                self.assertEqual(word, "21" * 500 if far % 2 == 0 else "12" * 500)
                self.assertEqual(done(here, word), there)
                self.assertEqual(word_between(there, here), word[::-1])
                for pair, other in [(here, beyond), (beyond, here)]:
                    self.assertEqual(self.refused(errors.TooLong, word_between, pair, other).many, 1001)
                self.assertEqual(ahead(beyond, here), -1001)
            for pair, other in [((row, []), ([], row)), (([], row), (row, []))]:
                self.assertEqual(self.refused(errors.TooLong, word_between, pair, other).many, way)

    def test_too_many_whatever_else_is_clear(self):
        plain = ([(1, 2)], [(5, 5)])
        for pair in LONG_PAIRS + [pair_at(FIFTY_ONE[1], 10 ** 500)]:
            for deed in (ahead, word_between):
                self.refused_many(deed, pair, pair)
                self.refused_many(deed, pair, plain)
                self.refused_many(deed, plain, pair)
                self.refused_many(deed, pair, turn(pair, "one"))
                self.refused_many(deed, LONG_PAIRS[3], pair)

    def test_no_pairs(self):
        for at, thing in enumerate(NO_PAIRS):
            for deed in (ahead, word_between):
                with self.subTest(deed=deed.__name__, at=at):
                    self.refused(errors.NoPair, deed, thing, ([], []))
                    self.refused(errors.NoPair, deed, ([], []), thing)
                    self.refused(errors.NoPair, deed, LONG_PAIRS[0], thing)


class SumKept(RefusalCase):
    """[15]"""

    def test_all_small_pairs(self):
        for row, pairs in lines_within(7):
            for pair in pairs:
                self.assertEqual(sum_kept(pair), added(row))

    def test_far(self):
        for row in FAR_ROWS + FIFTY_ONE:
            for far in spots(way_climbed(row)):
                self.assertEqual(sum_kept(pair_at(row, far)), added(row))
        self.assertEqual(sum_kept(([], [])), 0)
        self.assertIs(type(sum_kept(([], []))), int)

    def test_too_many_stretches_are_told_all_the_same(self):
        upper, lower = [(HALF + 1, 2 * HALF)], [(1, HALF)]
        for pair in [(upper, lower), (lower, upper)]:
            self.assertEqual(sum_kept(pair), 2 * HALF * (2 * HALF + 1) // 2 - HALF * HALF)
            self.refused_many(line_of, pair)
        self.assertEqual(sum_kept(([(52, 102)], [(1, 51)])), sum(range(2, 103, 2)))


class Written(RefusalCase):
    def test_rows_by_lists_and_tuples(self):
        one, other = pair_at([(1, 2), (5, 9)], 40)
        for way in written_ways(one):
            for side in written_ways(other):
                for pair in [(way, side), [way, side]]:
                    self.assertEqual((line_of(pair), how_far(pair)), ([(1, 2), (5, 9)], 40))
                    self.assertEqual(sum_kept(pair), added([(1, 2), (5, 9)]))
                    self.assertEqual(ahead(pair, (one, other)), 0)
                    self.assertEqual(word_between((one, other), pair), "")


if __name__ == "__main__":
    unittest.main()
