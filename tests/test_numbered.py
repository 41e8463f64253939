"""Point 24: numbers of pairs within so many places."""

import unittest
from itertools import product

from tests.helper import (
    FIFTY_ONE, FORTY, HALF, NO_PAIRS, RefusalCase, anything, ladder_climbed, leader, lines_within, line_walked, row_from,
    rows_within, spots, told_pair, written_ways,
)
from turntell import errors
from turntell.far import pair_at
from turntell.ladders import way_of
from turntell.lines import how_far, line_of
from turntell.numbered import many_of, number_of, pair_of
from turntell.rows import last_place
from turntell.turns import turn

MOST = 200
NO_N = anything() + [0, -1, 201, 202, FORTY, 10 ** 2499, "", "1", [], [1], (1,), {}]

# Rows within two hundred places; the last five of more than fifty stretches.
ROWS = [
    [], [(1, 1)], [(200, 200)], [(2, 200)], [(1, 199)], [(1, 200)], [(100, 150)], [(1, 3), (7, 7), (150, 180)],
    [(4 * k + 1, 4 * k + 3) for k in range(30)], [(2 * k, 2 * k) for k in range(1, 51)],
    [(2 * k, 2 * k) for k in range(1, 101)], [(2 * k - 1, 2 * k - 1) for k in range(1, 101)],
    FIFTY_ONE[0], [(3 * k + 1, 3 * k + 2) for k in range(66)], [(1, 100)] + [(2 * k, 2 * k) for k in range(51, 101)],
]


def coins(places, n):
    """A row by its coins from place 1 to n, as a text of h and t."""
    return "".join("h" if place in places else "t" for place in range(1, n + 1))


def in_order(n):
    """All pairs within n places, line by line: of rows that are alike up to a place, that with tails there first."""
    rows = sorted(rows_within(n), key=lambda places: coins(places, n).replace("t", "a"))
    return [(places, pair) for places in rows for pair in line_walked(places)]


def pairs_counted(rungs, left):
    """The pairs on the lines of all rows that begin with such a ladder, by both coins at each place left."""
    first, second = rungs
    for _ in range(left):
        first, second = (first + 2 * second) + first, second + (second + 2 * first)
    return first


def counted(text, n):
    """The pairs on the lines of all rows within n places that begin as a text tells."""
    row = row_from([place for place, sign in enumerate(text, start=1) if sign == "h"])
    return pairs_counted(ladder_climbed(row, len(text)), n - len(text))


class NumberOf(RefusalCase):
    def test_all_small_pairs(self):
        for n in (1, 2, 3, 4, 5):
            pairs = in_order(n)
            self.assertEqual(len(pairs), 4 ** n)
            for number, (_, pair) in enumerate(pairs):
                told = number_of(n, pair)
                self.assertEqual(told, number)
                self.assertIs(type(told), int)

    def test_by_hand(self):
        due = [([], []), ([(1, 1)], []), ([(1, 1)], [(1, 1)]), ([], [(1, 1)])]
        self.assertEqual([number_of(1, pair) for pair in due], [0, 1, 2, 3])
        # Within two places the lines of tt, th, ht and hh have one, seven, three and five pairs.
        self.assertEqual([number_of(2, pair) for pair in due], [0, 8, 9, 10])
        self.assertEqual(number_of(2, ([(2, 2)], [])), 1)
        self.assertEqual(number_of(2, ([], [(2, 2)])), 7)
        self.assertEqual(number_of(2, ([(1, 2)], [])), 11)
        self.assertEqual(number_of(2, ([], [(1, 2)])), 15)

    def test_first_and_last_row(self):
        for n in (1, 2, 3, 17, 199, 200):
            self.assertEqual(number_of(n, ([], [])), 0)
            for far in (0, 1, 2, n, 2 * n - 1, 2 * n):
                number = 4 ** n - 1 - 2 * n + far
                self.assertEqual(number_of(n, pair_at([(1, n)], far)), number)
            self.assertEqual(number_of(n, ([], [(1, n)])), 4 ** n - 1)
            self.assertEqual(number_of(n, ([(n, n)], [])), 1)

    def test_two_hundred_places(self):
        for row in ROWS:
            text = coins({place for first, last in row for place in range(first, last + 1)}, MOST)
            ahead = sum(counted(text[:at] + "t", MOST) for at in range(MOST) if text[at] == "h")
            for far in spots(way_of(row)):
                self.assertEqual(number_of(MOST, pair_at(row, far)), ahead + far)

    def test_nothing_is_too_many(self):
        for pair in [([(101, 200)], [(1, 100)]), ([(1, 100)], [(101, 200)]), ([], ROWS[-4]), (ROWS[-1], [])]:
            self.refused_many(line_of, pair)
            for n in (MOST, max(map(last_place, pair))):
                number = number_of(n, pair)
                self.assertEqual(pair_of(n, number), pair)
                self.assertLess(number, 4 ** n)

    def test_no_pairs(self):
        for at, thing in enumerate(NO_PAIRS):
            with self.subTest(at=at):
                self.refused(errors.NoPair, number_of, MOST, thing)

    def test_pairs_beyond(self):
        for n, row in [(1, [(2, 2)]), (3, [(1, 2), (4, 4)]), (200, [(200, 201)]), (200, [(HALF, FORTY)]), (199, ROWS[2])]:
            for pair in [(row, []), ([], row), (row, row)]:
                self.refused(errors.NoPair, number_of, n, pair)


class PairOf(RefusalCase):
    def test_all_small_numbers(self):
        for n in (1, 2, 3, 4, 5):
            told = [pair_of(n, number) for number in range(4 ** n)]
            self.assertEqual(told, [pair for _, pair in in_order(n)])
            self.assertTrue(all(map(told_pair, told)))
            self.refused(errors.NoNumber, pair_of, n, 4 ** n)

    def test_first_and_last_number(self):
        for n in (1, 2, 77, 199, 200):
            self.assertEqual(pair_of(n, 0), ([], []))
            self.assertEqual(pair_of(n, 1), ([(n, n)], []))
            self.assertEqual(pair_of(n, 4 ** n - 1), ([], [(1, n)]))
            self.assertEqual(pair_of(n, 4 ** n - 1 - 2 * n), ([(1, n)], []))

    def test_told_back(self):
        for n in (6, 7, 50, 199, 200):
            top = 4 ** n
            some = [top * part // 211 for part in range(211)] + [top - 1, top - 2, top // 2 - 1, top // 4, 2, 3]
            for number in some:
                pair = pair_of(n, number)
                self.assertEqual(number_of(n, pair), number)
                self.assertLessEqual(max(map(last_place, pair)), n)

    def test_one_behind_the_other(self):
        for row in ROWS:
            way = way_of(row)
            for far in spots(way):
                pair = pair_at(row, far)
                number = number_of(MOST, pair)
                self.assertEqual(pair_of(MOST, number), pair)
                if far < way:
                    self.assertEqual(pair_of(MOST, number + 1), turn(pair, leader((0, 0), far)))
                elif number + 1 < 4 ** MOST:
                    first, other = pair_of(MOST, number + 1)
                    self.assertEqual((other, first > []), ([], True))

    def test_all_lines_within_seven_places(self):
        lines = dict((str(row), pairs) for row, pairs in lines_within(7))
        numbers = []
        for row, pairs in lines_within(7):
            number = number_of(7, (row, []))
            self.assertEqual([pair_of(7, number + far) for far in range(len(pairs))], lines[str(row)])
            numbers += range(number, number + len(pairs))
        self.assertEqual(sorted(numbers), list(range(4 ** 7)))

    def test_other_places(self):
        pair = pair_at([(1, 2), (4, 6)], 33)
        for n in (6, 7, 30, 200):
            number = number_of(n, pair)
            self.assertEqual(pair_of(n, number), pair)
            self.assertEqual(number - how_far(pair), number_of(n, (line_of(pair), [])))

    def test_no_numbers(self):
        for at, thing in enumerate(anything() + ["", "0", [], [1], (1,), -1, -10 ** 2499, 4, 5, FORTY, 10 ** 2499]):
            with self.subTest(at=at):
                self.refused(errors.NoNumber, pair_of, 1, thing)
        for number in (4 ** MOST, 4 ** MOST + 1, 10 ** 2499, -1):
            self.refused(errors.NoNumber, pair_of, MOST, number)


class ManyOf(RefusalCase):
    def test_all_small_texts(self):
        for n in (1, 2, 3, 4, 5):
            pairs = in_order(n)
            for many in range(n + 1):
                for signs in product("ht", repeat=many):
                    text = "".join(signs)
                    due = sum(coins(places, n).startswith(text) for places, _ in pairs)
                    told = many_of(n, text)
                    self.assertEqual(told, due)
                    self.assertIs(type(told), int)

    def test_no_sign_one_sign_all_signs(self):
        for n in (1, 2, 3, 50, 199, 200):
            self.assertEqual(many_of(n, ""), 4 ** n)
            self.assertEqual(many_of(n, "h") + many_of(n, "t"), 4 ** n)
            self.assertEqual(many_of(n, "h"), counted("h", n))
            self.assertEqual(many_of(n, "t"), counted("t", n))
            self.assertEqual(many_of(n, "h" * n), 2 * n + 1)
            self.assertEqual(many_of(n, "t" * n), 1)
            self.assertEqual(many_of(n, "h" + "t" * (n - 1)), 3)

    def test_two_hundred_places(self):
        for row in ROWS:
            text = coins({place for first, last in row for place in range(first, last + 1)}, MOST)
            for many in (0, 1, 2, 3, 57, 100, 198, 199, 200):
                self.assertEqual(many_of(MOST, text[:many]), counted(text[:many], MOST))
                if many < MOST:
                    both = many_of(MOST, text[:many] + "h") + many_of(MOST, text[:many] + "t")
                    self.assertEqual(many_of(MOST, text[:many]), both)
            self.assertEqual(many_of(MOST, text), way_of(row) + 1)

    def test_numbers_of_what_begins_alike_go_on_without_a_gap(self):
        for text in ("h", "t", "ht", "thh", "hhtth"):
            begun = text + "t" * (20 - len(text))
            first = number_of(20, (row_from([at for at, sign in enumerate(begun, start=1) if sign == "h"]), []))
            last = text + "h" * (20 - len(text))
            end = number_of(20, ([], row_from([at for at, sign in enumerate(last, start=1) if sign == "h"])))
            self.assertEqual(end - first + 1, many_of(20, text))

    def test_no_words(self):
        things = anything() + ["H", "T", "ht ", " h", "hx", "12", "h\n", "hth1", b"h", ["h"], ("h", "t"), {"h"}, {"h": 1}, 0]
        for at, thing in enumerate(things):
            with self.subTest(at=at):
                self.refused(errors.NoWord, many_of, 4, thing)
        for n in (1, 2, 3, 200):
            self.refused(errors.NoWord, many_of, n, "h" * (n + 1))
            self.refused(errors.NoWord, many_of, n, "t" * (n + 1))
            self.refused(errors.NoWord, many_of, n, "ht" * 2000)


class Handed(RefusalCase):
    def test_no_places(self):
        for at, thing in enumerate(NO_N):
            with self.subTest(at=at):
                for deed, second in [(number_of, ([], [])), (pair_of, 0), (many_of, ""), (number_of, None), (pair_of, None),
                                     (many_of, None), (number_of, ([(1, FORTY)], [])), (pair_of, -1), (many_of, "x")]:
                    self.refused(errors.NoPlaces, deed, thing, second)

    def test_rows_by_lists_and_tuples(self):
        one, other = pair_at([(1, 2), (5, 9)], 40)
        number = number_of(12, (one, other))
        for way in written_ways(one):
            for side in written_ways(other):
                self.assertEqual(number_of(12, (way, side)), number)
                self.assertEqual(number_of(12, [way, side]), number)


if __name__ == "__main__":
    unittest.main()
