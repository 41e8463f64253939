"""Points 8 to 10: turns, words and turns by turns."""

import unittest
from itertools import product

from tests.helper import (
    FORTY, HALF, NO_PAIRS, NO_WHOS, SOME_ROWS, RefusalCase, anything, pair_from, pairs_within, row_from, rows_within,
    told_pair, turn_of_sets, written_ways,
)
from turntell import errors
from turntell.turns import by_turns, done, least_word, rests, turn

NO_WORDS = ["0", "3", "12 ", " 1", "1\n", "123", "21a", "\u0661", "\uff11", "one", 1, 12, 0, [], ["1"], ("1", "2"), ["12"], {}]


class Turn(RefusalCase):
    """[8]"""

    def test_all_small_pairs(self):
        for sets in pairs_within(4):
            for who in ("one", "other"):
                with self.subTest(sets=sets, who=who):
                    behind = turn(pair_from(sets), who)
                    self.assertTrue(told_pair(behind))
                    self.assertEqual(behind, pair_from(turn_of_sets(sets, who)))
                    self.assertEqual(turn(behind, who), pair_from(sets))

    def test_which_coin_is_turned(self):
        self.assertEqual(turn(([], [(2, 4)]), "one"), ([(3, 3)], [(2, 4)]))
        self.assertEqual(turn(([(2, 4)], []), "other"), ([(2, 4)], [(3, 3)]))
        self.assertEqual(turn(([(2, 2)], [(1, 1), (9, 9)]), "one"), ([], [(1, 1), (9, 9)]))

    def test_rest(self):
        self.assertEqual(turn(([(1, 3)], []), "one"), ([(1, 3)], []))
        self.assertEqual(turn(([], [(1, 3)]), "other"), ([], [(1, 3)]))
        self.assertEqual(turn(([], []), "one"), ([], []))
        self.assertEqual(turn(([], []), "other"), ([], []))

    def test_forty_figures(self):
        self.assertEqual(turn(([], [(1, FORTY)]), "one"), ([(FORTY, FORTY)], [(1, FORTY)]))
        row = [(HALF, FORTY)]
        self.assertEqual(turn((row, row), "other"), (row, [(HALF, FORTY - HALF), (FORTY - HALF + 2, FORTY)]))

    def test_rests(self):
        for sets in pairs_within(3):
            due = ([] if sets[1] else ["one"]) + ([] if sets[0] else ["other"])
            self.assertEqual(rests(pair_from(sets)), due)
            self.assertIs(type(rests(pair_from(sets))), list)
            still = [who for who in ("one", "other") if turn(pair_from(sets), who) == pair_from(sets)]
            self.assertEqual(still, due)
        self.assertEqual(rests(([], [])), ["one", "other"])
        self.assertEqual(rests(([(HALF, FORTY)], [])), ["one"])
        self.assertEqual(rests(([], [(HALF, FORTY)])), ["other"])
        self.assertEqual(rests(([(FORTY, FORTY)], [(HALF, FORTY)])), [])

    def test_no_pairs(self):
        calls = [
            lambda pair: turn(pair, "one"), lambda pair: turn(pair, "other"), rests, lambda pair: done(pair, ""),
            lambda pair: done(pair, "12"), by_turns, lambda pair: by_turns(pair, many=0),
        ]
        for number, call in enumerate(calls):
            for at, thing in enumerate(NO_PAIRS):
                with self.subTest(call=number, at=at):
                    self.refused(errors.NoPair, call, thing)

    def test_no_whos(self):
        for at, thing in enumerate(NO_WHOS):
            with self.subTest(at=at):
                self.refused(errors.NoWho, turn, ([], []), thing)
                self.refused(errors.NoWho, by_turns, ([], []), first=thing)
                self.refused(errors.NoWho, by_turns, ([], []), first=thing, many=0)


class Words(RefusalCase):
    """[9]"""

    def test_all_short_words(self):
        words = ["".join(signs) for many in range(6) for signs in product("12", repeat=many)]
        for sets in pairs_within(2):
            for word in words:
                now = sets
                for sign in word:
                    now = turn_of_sets(now, "one" if sign == "1" else "other")
                behind = done(pair_from(sets), word)
                self.assertTrue(told_pair(behind))
                self.assertEqual(behind, pair_from(now))
                self.assertEqual(done(pair_from(sets), least_word(word)), behind)

    def test_from_the_front(self):
        pair = ([(1, 1)], [])
        self.assertEqual(done(pair, "21"), ([], [(1, 1)]))
        self.assertEqual(done(pair, "12"), ([(1, 1)], [(1, 1)]))

    def test_no_sign(self):
        for row in SOME_ROWS:
            self.assertEqual(done((row, []), ""), (row, []))
        self.assertEqual(least_word(""), "")

    def test_least_words(self):
        for word, least in [
            ("1", "1"), ("2", "2"), ("12", "12"), ("11", ""), ("22", ""), ("111", "1"), ("1221", ""), ("12211", "1"),
            ("2112", ""), ("121221", "12"), ("1212", "1212"), ("12112", "1"), ("21121", "1"), ("2211", ""),
        ]:
            self.assertEqual(least_word(word), least)

    def test_least_of_all_short_words(self):
        for many in range(9):
            for signs in product("12", repeat=many):
                word = least = "".join(signs)
                while "11" in least or "22" in least:
                    least = least.replace("11", "", 1) if "11" in least else least.replace("22", "", 1)
                self.assertEqual(least_word(word), least)

    def test_least_is_told_apart_by_some_pair(self):
        # Unlike words without like neighbours lead from some pair to unlike ones: none shorter would do.
        words = ["".join(signs) for many in range(7) for signs in product("12", repeat=many)]
        words = [word for word in words if least_word(word) == word]
        pair = ([(1, 9)], [(2, 2), (4, 8)])
        behind = [done(pair, word) for word in words]
        for at, told in enumerate(behind):
            self.assertEqual([told == other for other in behind].count(True), 1, words[at])

    def test_four_thousand_signs(self):
        pair = ([(1, HALF), (HALF + 2, FORTY)], [(3 * k + HALF, 3 * k + HALF) for k in range(30)])
        self.assertEqual(done(pair, "11" * 2000), pair)
        self.assertEqual(done(pair, "12" * 1000 + "21" * 1000), pair)
        self.assertEqual(least_word("12" * 1000 + "21" * 1000), "")
        self.assertEqual(least_word("12" * 2000), "12" * 2000)
        self.assertEqual(least_word("1" * 3999), "1")
        there = done(pair, "21" * 2000)
        self.assertNotEqual(there, pair)
        self.assertEqual(done(there, "12" * 2000), pair)

    def test_no_words(self):
        for at, thing in enumerate(NO_WORDS + anything()):
            with self.subTest(at=at):
                self.refused(errors.NoWord, least_word, thing)
                self.refused(errors.NoWord, done, ([], []), thing)


class ByTurns(RefusalCase):
    """[10]"""

    def test_all_small_pairs(self):
        for sets in pairs_within(3):
            for first in ("one", "other"):
                now, who, due = sets, first, [pair_from(sets)]
                for _ in range(12):
                    now = turn_of_sets(now, who)
                    who = "one" if who == "other" else "other"
                    due.append(pair_from(now))
                told = by_turns(pair_from(sets), first=first, many=12)
                self.assertEqual(told, due)
                self.assertIs(type(told), list)
                self.assertTrue(all(told_pair(pair) for pair in told))

    def test_ways_to_the_end_and_back(self):
        told = by_turns(([(1, 3)], []), many=13)
        self.assertEqual(told[6], ([], [(1, 3)]))
        self.assertEqual(told[7:], told[6::-1])

    def test_left_out(self):
        pair = ([(2, 3)], [(1, 1)])
        self.assertEqual(by_turns(pair), by_turns(pair, first="other", many=10))
        self.assertEqual(by_turns(pair, many=4), by_turns(pair, first="other", many=4))
        self.assertEqual(by_turns(pair, first="one"), by_turns(pair, first="one", many=10))
        self.assertNotEqual(by_turns(pair, first="one"), by_turns(pair))
        self.assertEqual(len(by_turns(pair)), 11)

    def test_how_many(self):
        pair = ([(1, HALF), (FORTY, FORTY)], [(HALF, HALF)])
        self.assertEqual(by_turns(pair, many=0), [pair])
        self.assertEqual(by_turns(pair, many=1), [pair, turn(pair, "other")])
        told = by_turns(pair, first="one", many=299)
        self.assertEqual(len(told), 300)
        self.assertEqual(told[299], done(pair, "12" * 149 + "1"))
        self.assertEqual(told[0], pair)

    def test_no_numbers(self):
        for at, thing in enumerate(anything() + [300, 301, FORTY, 10 ** 2500, "", "10", [], [1], (1,)]):
            with self.subTest(at=at):
                self.refused(errors.NoNumber, by_turns, ([], []), many=thing)
                self.refused(errors.NoNumber, by_turns, ([(1, 2)], []), first="one", many=thing)

    def test_rows_by_lists_and_tuples(self):
        for one in written_ways([(1, 1), (3, 5)]):
            for other in written_ways([(2, 2)]):
                for pair in [(one, other), [one, other]]:
                    plain = ([(1, 1), (3, 5)], [(2, 2)])
                    self.assertEqual(turn(pair, "one"), turn(plain, "one"))
                    self.assertEqual(by_turns(pair), by_turns(plain))
                    self.assertEqual(by_turns(pair, many=0), [plain])
                    self.assertEqual(done(pair, ""), plain)
                    self.assertEqual(rests(pair), [])
                    self.assertTrue(told_pair(turn(pair, "other")))
                    self.assertTrue(told_pair(done(pair, "")))
                    self.assertTrue(told_pair(by_turns(pair)[0]))

    def test_every_small_line_comes_to_its_end(self):
        for places in rows_within(4):
            row = row_from(places)
            self.assertIn(([], row), by_turns((row, []), many=299))


if __name__ == "__main__":
    unittest.main()
