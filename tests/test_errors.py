"""Point 3: the refusals, their kinship, their fields and their order."""

import copy
import pickle
import unittest

from turntell import errors
from turntell.rows import about, heads_to, nth, row_of, shows, turned_over
from turntell.turns import by_turns, done, least_word, rests, turn

WITH_TEXT = ["NoRow", "NoPlace", "NoNumber", "NoPlaces", "NoPair", "NoWho", "NoWord", "NoTurns", "NoKind", "NoneYet"]
WITH_FIELD = {"TooMany": "many", "TooLong": "many", "NoText": "at"}
ALL = WITH_TEXT + list(WITH_FIELD)


class Kinship(unittest.TestCase):
    def test_the_whole_family(self):
        self.assertEqual(errors.TurnError.__bases__, (ValueError,))
        for name in ALL:
            with self.subTest(name):
                self.assertEqual(getattr(errors, name).__bases__, (errors.TurnError,))
                self.assertEqual(getattr(errors, name).__module__, "turntell.errors")

    def test_none_stands_under_another_one(self):
        for low in ALL:
            for high in ALL:
                with self.subTest(low=low, high=high):
                    under = issubclass(getattr(errors, low), getattr(errors, high))
                    self.assertEqual(under, low == high)

    def test_no_other_refusals(self):
        found = [name for name, thing in vars(errors).items() if isinstance(thing, type)]
        self.assertEqual(sorted(found), sorted(ALL + ["TurnError"]))


class Making(unittest.TestCase):
    def test_with_one_text(self):
        for name in ["TurnError"] + WITH_TEXT:
            with self.subTest(name):
                made = getattr(errors, name)("why")
                self.assertEqual(str(made), "why")
                self.assertIsInstance(made, ValueError)

    def test_field_by_place_and_by_name(self):
        for name, field in WITH_FIELD.items():
            kind = getattr(errors, name)
            for worth in [0, 1, 51, 1001, 10 ** 5000, None, "x"]:
                with self.subTest(name):
                    by_place, by_name = kind(worth), kind(**{field: worth})
                    self.assertIs(getattr(by_place, field), worth)
                    self.assertIs(getattr(by_name, field), worth)
                    self.assertIsInstance(str(by_name), str)
                    self.assertEqual(vars(by_place), {field: worth})

    def test_field_is_due(self):
        for name in WITH_FIELD:
            with self.assertRaises(TypeError):
                getattr(errors, name)()

    def test_copies_keep_the_field(self):
        for name, field in WITH_FIELD.items():
            made = getattr(errors, name)(**{field: 7})
            for again in [copy.copy(made), copy.deepcopy(made), pickle.loads(pickle.dumps(made))]:
                self.assertIs(type(again), type(made))
                self.assertEqual(getattr(again, field), 7)


class Order(unittest.TestCase):
    """Where several are due, the first argument of the interface that is refused tells which one comes."""

    def refused(self, name, call):
        with self.assertRaises(errors.TurnError) as caught:
            call()
        self.assertIs(type(caught.exception), getattr(errors, name))

    def test_row_ahead_of_the_rest(self):
        for deed, second in [(heads_to, "place"), (shows, "place"), (turned_over, "place"), (nth, "number"), (about, "n")]:
            with self.subTest(deed.__name__):
                self.refused("NoRow", lambda: deed(None, None))
                self.refused("NoRow", lambda: deed(**{second: None, "row": [(0, 1)]}))

    def test_second_where_the_row_is_one(self):
        self.refused("NoPlace", lambda: heads_to([], None))
        self.refused("NoPlace", lambda: shows([], None))
        self.refused("NoPlace", lambda: turned_over([], None))
        self.refused("NoNumber", lambda: nth([], None))
        self.refused("NoPlaces", lambda: about([], None))
        self.refused("NoPlace", lambda: row_of(None))

    def test_pair_ahead_of_who_ahead_of_number(self):
        pair = ([], [])
        self.refused("NoPair", lambda: turn(None, None))
        self.refused("NoPair", lambda: turn(who="x", pair=([(1, 2)], [(0, 1)])))
        self.refused("NoWho", lambda: turn(pair, None))
        self.refused("NoPair", lambda: rests(None))
        self.refused("NoPair", lambda: done(None, None))
        self.refused("NoPair", lambda: done(word="3", pair=()))
        self.refused("NoWord", lambda: done(pair, None))
        self.refused("NoWord", lambda: least_word(None))
        self.refused("NoPair", lambda: by_turns(None, first=None, many=None))
        self.refused("NoPair", lambda: by_turns(None, many=-1))
        self.refused("NoWho", lambda: by_turns(pair, many=None, first=None))
        self.refused("NoNumber", lambda: by_turns(pair, many=None))

    def test_pair_of_no_rows_is_no_pair(self):
        for pair in [([(0, 1)], []), ([], [(0, 1)]), (None, []), ([], None)]:
            self.refused("NoPair", lambda: turn(pair, "one"))


if __name__ == "__main__":
    unittest.main()
