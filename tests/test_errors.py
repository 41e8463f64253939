"""Point 3: the refusals, their kinship, their fields and their order."""

import copy
import pickle
import unittest

from tests.helper import FIFTY_ONE, FORTY, HALF, LONG_PAIRS, LONG_WITHIN
from turntell import errors
from turntell.alone import alone_behind, meeting, steps
from turntell.far import first_time, pair_at, pair_behind, round_of, until_rest
from turntell.kinds import ends_within, line_within, pair_within, pairs_within, turn_within
from turntell.ladders import ladder, row_by
from turntell.lines import ahead, how_far, line_of, word_between
from turntell.numbered import many_of, number_of, pair_of
from turntell.rows import about, heads_to, nth, row_of, shows, turned_over
from turntell.tables import Table
from turntell.texts import read_deeds, read_pair, read_row, show_pair, show_row
from turntell.turns import by_turns, done, least_word, rests, turn

WITH_TEXT = ["NoRow", "NoPlace", "NoNumber", "NoPlaces", "NoPair", "NoWho", "NoWord", "NoTurns", "NoKind", "NoneYet"]
WITH_FIELD = {"TooMany": "many", "TooLong": "many", "NoText": "at"}
ALL = WITH_TEXT + list(WITH_FIELD)


class Kinship(unittest.TestCase):
    def test_the_whole_family(self):
        self.assertEqual(errors.TurnError.__bases__, (ValueError,))
        for name in ALL:
            with self.subTest(name):
                self.assertEqual(getattr(errors, name).__bases__, (errors.TurnError,))
                self.assertEqual(getattr(errors, name).__module__, "turntell.errors")

    def test_none_stands_under_another_one(self):
        for low in ALL:
            for high in ALL:
                with self.subTest(low=low, high=high):
                    under = issubclass(getattr(errors, low), getattr(errors, high))
                    self.assertEqual(under, low == high)

    def test_no_other_refusals(self):
        found = [name for name, thing in vars(errors).items() if isinstance(thing, type)]
        self.assertEqual(sorted(found), sorted(ALL + ["TurnError"]))


class Making(unittest.TestCase):
    def test_with_one_text(self):
        for name in ["TurnError"] + WITH_TEXT:
            with self.subTest(name):
                made = getattr(errors, name)("why")
                self.assertEqual(str(made), "why")
                self.assertIsInstance(made, ValueError)

    def test_field_by_place_and_by_name(self):
        for name, field in WITH_FIELD.items():
            kind = getattr(errors, name)
            for worth in [0, 1, 51, 1001, 10 ** 5000, None, "x"]:
                with self.subTest(name):
                    by_place, by_name = kind(worth), kind(**{field: worth})
                    self.assertIs(getattr(by_place, field), worth)
                    self.assertIs(getattr(by_name, field), worth)
                    self.assertIsInstance(str(by_name), str)
                    self.assertEqual(vars(by_place), {field: worth})

    def test_field_is_due(self):
        for name in WITH_FIELD:
            with self.assertRaises(TypeError):
                getattr(errors, name)()

    def test_copies_keep_the_field(self):
        for name, field in WITH_FIELD.items():
            made = getattr(errors, name)(**{field: 7})
            for again in [copy.copy(made), copy.deepcopy(made), pickle.loads(pickle.dumps(made))]:
                self.assertIs(type(again), type(made))
                self.assertEqual(getattr(again, field), 7)


class Order(unittest.TestCase):
    """Where several are due, the first argument of the interface that is refused tells which one comes."""

    def refused(self, name, call):
        with self.assertRaises(errors.TurnError) as caught:
            call()
        self.assertIs(type(caught.exception), getattr(errors, name))

    def test_row_ahead_of_the_rest(self):
        for deed, second in [(heads_to, "place"), (shows, "place"), (turned_over, "place"), (nth, "number"), (about, "n")]:
            with self.subTest(deed.__name__):
                self.refused("NoRow", lambda: deed(None, None))
                self.refused("NoRow", lambda: deed(**{second: None, "row": [(0, 1)]}))

    def test_second_where_the_row_is_one(self):
        self.refused("NoPlace", lambda: heads_to([], None))
        self.refused("NoPlace", lambda: shows([], None))
        self.refused("NoPlace", lambda: turned_over([], None))
        self.refused("NoNumber", lambda: nth([], None))
        self.refused("NoPlaces", lambda: about([], None))
        self.refused("NoPlace", lambda: row_of(None))

    def test_pair_ahead_of_who_ahead_of_number(self):
        pair = ([], [])
        self.refused("NoPair", lambda: turn(None, None))
        self.refused("NoPair", lambda: turn(who="x", pair=([(1, 2)], [(0, 1)])))
        self.refused("NoWho", lambda: turn(pair, None))
        self.refused("NoPair", lambda: rests(None))
        self.refused("NoPair", lambda: done(None, None))
        self.refused("NoPair", lambda: done(word="3", pair=()))
        self.refused("NoWord", lambda: done(pair, None))
        self.refused("NoWord", lambda: least_word(None))
        self.refused("NoPair", lambda: by_turns(None, first=None, many=None))
        self.refused("NoPair", lambda: by_turns(None, many=-1))
        self.refused("NoWho", lambda: by_turns(pair, many=None, first=None))
        self.refused("NoNumber", lambda: by_turns(pair, many=None))

    def test_pair_of_no_rows_is_no_pair(self):
        for pair in [([(0, 1)], []), ([], [(0, 1)]), (None, []), ([], None)]:
            self.refused("NoPair", lambda: turn(pair, "one"))

    def test_ladders(self):
        self.refused("NoRow", lambda: ladder(None, None))
        self.refused("NoRow", lambda: ladder(n=0, row=[(2, 1)]))
        self.refused("NoPlaces", lambda: ladder([(1, 2)], 1))
        self.refused("NoNumber", lambda: row_by(None, None))

    def test_pairs_ahead_of_too_many_ahead_of_too_long(self):
        pair, long, way = ([], []), LONG_PAIRS[0], ([(1, HALF)], [])
        for deed in (ahead, word_between):
            self.refused("NoPair", lambda: deed(None, None))
            self.refused("NoPair", lambda: deed(long, None))
            self.refused("NoPair", lambda: deed(None, long))
            self.refused("NoPair", lambda: deed(other=([(0, 1)], []), pair=long))
            self.refused("TooMany", lambda: deed(long, long))
            self.refused("TooMany", lambda: deed(long, pair))
            self.refused("TooMany", lambda: deed(pair, long))
            self.refused("TooMany", lambda: deed((FIFTY_ONE[0], []), ([], FIFTY_ONE[0])))
        self.refused("TooLong", lambda: word_between(way, way[::-1]))
        for deed in (line_of, how_far, round_of):
            self.refused("NoPair", lambda: deed(([(1, 1), (2, 2)], [])))
            self.refused("TooMany", lambda: deed(long))

    def test_far_turns(self):
        pair, long = ([], []), LONG_PAIRS[0]
        self.refused("NoRow", lambda: pair_at(None, None))
        self.refused("NoTurns", lambda: pair_at([], 1))
        self.refused("NoPair", lambda: pair_behind(None, None, None))
        self.refused("NoWho", lambda: pair_behind(long, None, None))
        self.refused("NoWho", lambda: pair_behind(turns=-1, who="", pair=pair))
        self.refused("NoTurns", lambda: pair_behind(long, "one", -1))
        self.refused("TooMany", lambda: pair_behind(long, "one", 0))
        self.refused("NoPair", lambda: first_time(None, None, None))
        self.refused("NoWho", lambda: first_time(long, None, None))
        self.refused("NoWho", lambda: first_time(other=None, who="three", pair=pair))
        self.refused("NoPair", lambda: first_time(long, "one", None))
        self.refused("TooMany", lambda: first_time(long, "one", pair))
        self.refused("TooMany", lambda: first_time(pair, "one", long))
        self.refused("NoPair", lambda: until_rest(None, None))
        self.refused("NoWho", lambda: until_rest(long, None))
        self.refused("TooMany", lambda: until_rest(long, "other"))

    def test_one_row_alone(self):
        self.refused("NoRow", lambda: steps(None, many=None))
        self.refused("NoNumber", lambda: steps([], many=None))
        self.refused("NoRow", lambda: alone_behind(None, None))
        self.refused("NoTurns", lambda: alone_behind([], None))
        self.refused("NoRow", lambda: meeting([], None))
        self.refused("NoRow", lambda: meeting(None, []))

    def test_within_places(self):
        pair, far_pair, far_row = ([], []), ([(9, 9)], []), [(9, 9)]
        for n in (None, 0, True):
            self.refused("NoPlaces", lambda: turn_within(n, None, None, None))
            self.refused("NoPlaces", lambda: ends_within(n, None, None))
            self.refused("NoPlaces", lambda: pairs_within(row=None, kind=None, n=n))
            self.refused("NoPlaces", lambda: line_within(n, None, None))
            self.refused("NoPlaces", lambda: pair_within(turns=-1, row=None, kind=(2, 0), n=n))
        for kind in (None, (0, 2), (True, 0)):
            self.refused("NoKind", lambda: turn_within(3, kind, None, None))
            self.refused("NoKind", lambda: ends_within(3, kind, far_row))
            self.refused("NoKind", lambda: pairs_within(3, kind, None))
            self.refused("NoKind", lambda: line_within(pair=far_pair, kind=kind, n=3))
            self.refused("NoKind", lambda: pair_within(3, kind, None, None))
        for thing in (None, far_pair):
            self.refused("NoPair", lambda: turn_within(3, (0, 1), thing, None))
            self.refused("NoPair", lambda: line_within(3, (0, 1), thing))
        self.refused("NoWho", lambda: turn_within(3, (0, 1), pair, None))
        for row in (None, far_row):
            self.refused("NoRow", lambda: ends_within(3, (1, 1), row))
            self.refused("NoRow", lambda: pairs_within(3, (1, 1), row))
            self.refused("NoRow", lambda: pair_within(3, (1, 1), row, None))
        self.refused("NoTurns", lambda: pair_within(3, (1, 1), [], 1))
        for n, kind, long in LONG_WITHIN:
            self.refused("TooMany", lambda: line_within(n, kind, long))
            self.refused("NoPair", lambda: line_within(n // 2, kind, long))
            self.refused("NoKind", lambda: line_within(n, kind + (0,), long))
            self.refused("NoPlaces", lambda: line_within(-n, kind, long))
        self.refused("NoTurns", lambda: pair_within(FORTY, (0, 1), FIFTY_ONE[1], -1))

    def test_numbers_of_pairs(self):
        for n in (None, 0, 201, True):
            self.refused("NoPlaces", lambda: number_of(n, None))
            self.refused("NoPlaces", lambda: pair_of(number=None, n=n))
            self.refused("NoPlaces", lambda: many_of(n, None))
        self.refused("NoPair", lambda: number_of(3, None))
        self.refused("NoPair", lambda: number_of(3, ([(4, 4)], [])))
        self.refused("NoNumber", lambda: pair_of(3, 64))
        self.refused("NoWord", lambda: many_of(3, "hhhh"))

    def test_tables(self):
        table, long = Table(), Table(LONG_PAIRS[0])
        self.refused("NoPair", lambda: Table(3))
        self.refused("NoPair", lambda: long.set_to(3))
        for deed in (table, long):
            self.refused("NoWho", lambda: deed.turned(None))
            self.refused("NoWho", lambda: deed.gone(None, None))
            self.refused("NoWho", lambda: deed.by_hand(None, None))
            self.refused("NoTurns", lambda: deed.gone("one", None))
            self.refused("NoPlace", lambda: deed.by_hand("one", None))
            self.refused("NoneYet", deed.back)
            self.refused("NoneYet", deed.again)
        self.refused("TooMany", lambda: long.gone("one", 0))
        self.refused("TooMany", long.line)
        self.refused("TooMany", long.far)
        self.refused("TooMany", long.lines)

    def test_texts(self):
        self.refused("NoRow", lambda: show_row(None))
        self.refused("NoPair", lambda: show_pair(([(0, 1)], [])))
        for read in (read_row, read_pair, read_deeds):
            self.refused("NoText", lambda: read(None))
            self.refused("NoText", lambda: read("x"))


if __name__ == "__main__":
    unittest.main()
