"""Point 2 and the interface: what is handed in, what is told, and by which names."""

import copy
import inspect
import unittest
from collections import namedtuple
from enum import Enum, IntEnum

from tests.helper import FORTY, HALF, KINDS, SOME_ROWS, THIRTY, told_pair, told_row, way_climbed, written_ways
from turntell import alone, errors, far, kinds, ladders, lines, numbered, rows, tables, texts, turns

INTERFACE = {
    rows: {
        "is_row": "(thing)", "heads": "(row)", "heads_to": "(row, place)", "nth": "(row, number)", "added": "(row)",
        "last_place": "(row)", "shows": "(row, place)", "turned_over": "(row, place)", "row_of": "(places)",
        "about": "(row, n)",
    },
    turns: {
        "turn": "(pair, who)", "rests": "(pair)", "done": "(pair, word)", "least_word": "(word)",
        "by_turns": "(pair, *, first='other', many=10)",
    },
    ladders: {"ladder": "(row, n)", "way_of": "(row)", "row_by": "(one, other)"},
    lines: {
        "line_of": "(pair)", "how_far": "(pair)", "ahead": "(pair, other)", "word_between": "(pair, other)",
        "sum_kept": "(pair)",
    },
    far: {
        "pair_at": "(row, turns)", "pair_behind": "(pair, who, turns)", "round_of": "(pair)",
        "first_time": "(pair, who, other)", "until_rest": "(pair, who)",
    },
    alone: {
        "step": "(row)", "steps": "(row, *, many=10)", "comers": "(row)", "runs": "(row)", "row_with": "(row)",
        "turns_alone": "(row)", "alone_behind": "(row, turns)", "meeting": "(row, other)", "halfway": "(row)",
    },
    kinds: {
        "turn_within": "(n, kind, pair, who)", "ends_within": "(n, kind, row)", "pairs_within": "(n, kind, row)",
        "line_within": "(n, kind, pair)", "pair_within": "(n, kind, row, turns)",
    },
    numbered: {"number_of": "(n, pair)", "pair_of": "(n, number)", "many_of": "(n, text)"},
    tables: {"Table": "(pair=None)"},
    texts: {
        "show_row": "(row)", "show_pair": "(pair)", "show_deeds": "(deeds)", "read_row": "(text)", "read_pair": "(text)",
        "read_deeds": "(text)",
    },
}
METHODS = {
    "turned": "(self, who)", "gone": "(self, who, turns)", "by_hand": "(self, who, place)", "set_to": "(self, pair)",
    "back": "(self)", "again": "(self)", "pair": "(self)", "line": "(self)", "far": "(self)", "deeds": "(self)",
    "lines": "(self)", "twin": "(self)", "__eq__": "(self, other)", "__len__": "(self)",
}
BY_NAME_ALONE = {"by_turns", "steps"}

# Of each name of the interface: the function, and one call of it by the names of its arguments.
CALLS = [
    (rows.is_row, {"thing": [(1, 2), (4, 5)]}, True),
    (rows.heads, {"row": [(1, 2), (4, 5)]}, 4),
    (rows.heads_to, {"row": [(1, 2), (4, 5)], "place": 4}, 3),
    (rows.nth, {"row": [(1, 2), (4, 5)], "number": 3}, 4),
    (rows.added, {"row": [(1, 2), (4, 5)]}, 12),
    (rows.last_place, {"row": [(1, 2), (4, 5)]}, 5),
    (rows.shows, {"row": [(1, 2), (4, 5)], "place": 3}, False),
    (rows.turned_over, {"row": [(1, 2), (4, 5)], "place": 3}, [(1, 5)]),
    (rows.row_of, {"places": [5, 1, 4]}, [(1, 1), (4, 5)]),
    (rows.about, {"row": [(1, 2), (4, 5)], "n": 6}, [(1, 1), (4, 4)]),
    (turns.turn, {"pair": ([(1, 2)], [(4, 5)]), "who": "one"}, ([(1, 1)], [(4, 5)])),
    (turns.rests, {"pair": ([(1, 2)], [])}, ["one"]),
    (turns.done, {"pair": ([(1, 2)], [(4, 5)]), "word": "12"}, ([(1, 1)], [(1, 1), (4, 5)])),
    (turns.least_word, {"word": "1221121"}, "121"),
    (ladders.ladder, {"row": [(1, 2)], "n": 3}, (5, 11)),
    (ladders.way_of, {"row": [(1, 2)]}, 4),
    (ladders.row_by, {"one": 5, "other": 11}, ([(1, 2)], 3)),
    (lines.line_of, {"pair": ([(2, 2)], [(1, 2)])}, [(1, 2)]),
    (lines.how_far, {"pair": ([(2, 2)], [(1, 2)])}, 3),
    (lines.ahead, {"pair": ([], [(1, 2)]), "other": ([(1, 2)], [(2, 2)])}, -3),
    (lines.word_between, {"pair": ([], [(1, 2)]), "other": ([(1, 2)], [(2, 2)])}, "121"),
    (lines.sum_kept, {"pair": ([(2, 2)], [(1, 2)])}, 3),
    (far.pair_at, {"row": [(1, 2)], "turns": 3}, ([(2, 2)], [(1, 2)])),
    (far.pair_behind, {"pair": ([(1, 2)], []), "who": "one", "turns": 4}, ([(2, 2)], [(1, 2)])),
    (far.round_of, {"pair": ([(2, 2)], [(1, 2)])}, 10),
    (far.first_time, {"pair": ([(1, 2)], []), "who": "one", "other": ([(2, 2)], [(1, 2)])}, 4),
    (far.until_rest, {"pair": ([(2, 2)], [(1, 2)]), "who": "other"}, 3),
    (alone.step, {"row": [(4, 5)]}, [(2, 2), (4, 5)]),
    (alone.comers, {"row": [(1, 2)]}, [[(1, 3)], [(2, 2)]]),
    (alone.runs, {"row": [(4, 5)]}, [(2, 5)]),
    (alone.row_with, {"row": [(4, 5)]}, [(5, 5)]),
    (alone.turns_alone, {"row": [(4, 5)]}, 14),
    (alone.alone_behind, {"row": [(4, 5)], "turns": 12}, [(1, 2)]),
    (alone.meeting, {"row": [(4, 5)], "other": [(2, 2)]}, ([(1, 2)], 12, 1)),
    (alone.halfway, {"row": [(4, 5)]}, ([(5, 5)], [(5, 5)])),
    (kinds.turn_within, {"n": 3, "kind": (0, 1), "pair": ([(1, 2)], [(1, 1)]), "who": "other"},
     ([(1, 2)], [(1, 1), (3, 3)])),
    (kinds.ends_within, {"n": 3, "kind": (0, 1), "row": [(1, 1)]}, (([(1, 1)], []), ([(1, 3)], [(1, 2)]))),
    (kinds.pairs_within, {"n": 3, "kind": (1, 0), "row": [(1, 2)]}, 11),
    (kinds.line_within, {"n": 2, "kind": (1, 1), "pair": ([(1, 1)], [(1, 1)])}, ([(1, 1)], 1)),
    (kinds.pair_within, {"n": 2, "kind": (1, 1), "row": [(2, 2)], "turns": 2}, ([], [(1, 1)])),
    (numbered.number_of, {"n": 2, "pair": ([(1, 1)], [(1, 1)])}, 9),
    (numbered.pair_of, {"n": 2, "number": 9}, ([(1, 1)], [(1, 1)])),
    (numbered.many_of, {"n": 3, "text": "ht"}, 20),
    (tables.Table, {"pair": ([(1, 2)], [])}, tables.Table([[(1, 2)], []])),
    (texts.show_row, {"row": [(1, 2), (4, 4)]}, "1-2,4"),
    (texts.show_pair, {"pair": ([(1, 2)], [])}, "1-2|-"),
    (texts.show_deeds, {"deeds": [("turned", "one"), ("by_hand", "other", 3)]}, "turn 1\nhand 2 3\n"),
    (texts.read_row, {"text": "1-2,4"}, [(1, 2), (4, 4)]),
    (texts.read_pair, {"text": "1-2|-"}, ([(1, 2)], [])),
    (texts.read_deeds, {"text": "go 2 0\nset -|3\n"}, [("gone", "other", 0), ("set_to", ([], [(3, 3)]))]),
]


def answer(deed, *args):
    """What a call tells, or the refusal that it meets, by its name and fields."""
    try:
        return deed(*args)
    except errors.TurnError as error:
        return type(error).__name__, vars(error)


def asked_far(pair):
    """All that is asked of a pair, beyond single turns."""
    one, other = pair
    back = (other, one)
    told = [ladders.ladder(one, FORTY), ladders.way_of(one), lines.sum_kept(pair), far.pair_at(one, 0),
            far.pair_at(one, ladders.way_of(one) // 3), alone.step(one), alone.steps(one, many=3), alone.comers(one),
            alone.runs(one), alone.row_with(one), alone.turns_alone(one), alone.alone_behind(one, 0),
            alone.alone_behind(one, 7), alone.meeting(one, other), alone.meeting(one, one), alone.halfway(one)]
    for deed in (lines.line_of, lines.how_far, far.round_of):
        told.append(answer(deed, pair))
    for deed in (lines.ahead, lines.word_between):
        told += [answer(deed, pair, pair), answer(deed, pair, back)]
    for who in ("one", "other"):
        told += [answer(far.pair_behind, pair, who, 0), answer(far.pair_behind, pair, who, 10 ** 90)]
        told += [answer(far.first_time, pair, who, pair), answer(far.first_time, pair, who, back)]
        told.append(answer(far.until_rest, pair, who))
    return told


def asked_within(pair):
    """All that is asked of a pair within places, by number, on a Table and by text."""
    one, other = pair
    told = []
    for kind in KINDS:
        for given in (kind, list(kind)):
            for n in (5, 2 * FORTY):
                told += [answer(kinds.turn_within, n, given, pair, who) for who in ("one", "other")]
                told += [answer(kinds.ends_within, n, given, one), answer(kinds.pairs_within, n, given, one),
                         answer(kinds.line_within, n, given, pair), answer(kinds.pair_within, n, given, one, 1),
                         answer(kinds.pair_within, n, given, one, 0)]
    told += [answer(numbered.number_of, 150, pair), texts.show_row(one), texts.show_pair(pair),
             texts.show_deeds([["set_to", pair]]), texts.show_deeds((("set_to", pair), ("turned", "one")))]
    table = tables.Table(pair)
    table.turned("other")
    table.set_to(pair)
    table.by_hand("one", 3)
    told += [table.pair(), table.deeds(), len(table), table.twin().deeds(), table == tables.Table(pair)]
    return told + [answer(ask) for ask in (table.line, table.far, table.lines)]


def asked_all(pair, first, many):
    """All that is asked of a pair, by one list each."""
    one, other = pair
    told = [rows.is_row(one), rows.heads(one), rows.heads_to(one, 3), rows.added(one), rows.last_place(one),
            rows.shows(one, 3), rows.turned_over(one, 3), rows.turned_over(one, 0), rows.about(one, FORTY),
            rows.turned_over(other, 1), turns.turn(pair, "one"), turns.turn(pair, "other"), turns.rests(pair),
            turns.done(pair, "1221"), turns.done(pair, ""), turns.by_turns(pair, first=first, many=many)]
    return told + asked_far(pair) + asked_within(pair) + ([rows.nth(one, 1)] if one else [])


def lists_in(thing):
    """All lists that stand in a thing, itself too."""
    found = [thing] if isinstance(thing, list) else []
    if isinstance(thing, (list, tuple)):
        for part in thing:
            found += lists_in(part)
    return found


def spoil(thing):
    """Change every list that stands in a thing."""
    for found in lists_in(thing):
        found.append("spoilt")
        found.reverse()


class Interface(unittest.TestCase):
    def test_names_arguments_and_files(self):
        for module, names in INTERFACE.items():
            for name, arguments in names.items():
                with self.subTest(name):
                    deed = getattr(module, name)
                    self.assertEqual(str(inspect.signature(deed)), arguments)
                    self.assertEqual(deed.__module__, module.__name__)

    def test_methods_of_the_table(self):
        found = {name for name in vars(tables.Table) if not name.startswith("_")} | {"__eq__", "__len__"}
        self.assertEqual(found, set(METHODS))
        for name, arguments in METHODS.items():
            with self.subTest(name):
                self.assertEqual(str(inspect.signature(vars(tables.Table)[name])), arguments)

    def test_methods_by_names_and_by_places(self):
        deeds = [("turned", {"who": "one"}), ("gone", {"who": "other", "turns": 3}), ("set_to", {"pair": ([], [(2, 2)])}),
                 ("by_hand", {"who": "one", "place": 4}), ("back", {}), ("again", {})]
        told = [tables.Table(), tables.Table(), tables.Table()]
        for name, named in deeds:
            for table, call in zip(told, [lambda deed: deed(**named), lambda deed: deed(*named.values()),
                                          lambda deed: deed(**dict(reversed(named.items())))]):
                self.assertIsNone(call(getattr(table, name)))
        self.assertEqual(told[0].pair(), ([(4, 4)], [(2, 2)]))
        self.assertTrue(told[0] == told[1] == told[2])
        self.assertEqual([table.deeds() for table in told], [told[0].deeds()] * 3)

    def test_by_names_and_by_places(self):
        self.assertEqual({deed.__name__ for deed, _, _ in CALLS} | BY_NAME_ALONE,
                         {name for names in INTERFACE.values() for name in names})
        for deed, named, due in CALLS:
            with self.subTest(deed.__name__):
                self.assertEqual(deed(**named), due)
                self.assertEqual(deed(*named.values()), due)
                self.assertEqual(deed(**dict(reversed(named.items()))), due)
                self.assertIs(type(deed(**named)), type(due))

    def test_by_turns_by_names_alone(self):
        pair = ([(1, 1)], [])
        due = [([(1, 1)], []), ([(1, 1)], [(1, 1)])]
        self.assertEqual(turns.by_turns(pair=pair, first="other", many=1), due)
        self.assertEqual(turns.by_turns(many=1, pair=pair), due)
        self.assertEqual(turns.by_turns(pair, many=1), due)
        for call in [lambda: turns.by_turns(pair, "other"), lambda: turns.by_turns(pair, "other", 1)]:
            self.assertRaises(TypeError, call)


    def test_steps_by_names_alone(self):
        self.assertEqual(alone.steps(row=[(2, 2)], many=2), [[(2, 2)], [(1, 2)], [(1, 1)]])
        self.assertEqual(alone.steps(many=1, row=[(2, 2)]), [[(2, 2)], [(1, 2)]])
        self.assertRaises(TypeError, lambda: alone.steps([(2, 2)], 2))


class Handed(unittest.TestCase):
    def test_nothing_handed_in_is_changed(self):
        for one in SOME_ROWS:
            for other in SOME_ROWS:
                for pair in [([list(s) for s in one], [list(s) for s in other]), [list(one), tuple(other)]]:
                    before = copy.deepcopy(pair)
                    told = asked_all(pair, "one", 5)
                    self.assertEqual(pair, before)
                    self.assertEqual([type(row) for row in pair], [type(row) for row in before])
                    spoil(told)
                    self.assertEqual(pair, before)

    def test_places_handed_in_stay(self):
        places = [3, 1, 2, 9]
        told = rows.row_of(places)
        self.assertEqual(places, [3, 1, 2, 9])
        spoil(told)
        self.assertEqual(places, [3, 1, 2, 9])
        self.assertEqual(rows.row_of(places), [(1, 3), (9, 9)])

    def test_nothing_handed_in_is_kept(self):
        stretch = [2, 4]
        row = [stretch]
        pair = [row, row]
        told = asked_all(pair, "one", 5)
        before = copy.deepcopy(told)
        stretch[1] = 9
        row.append([20, 21])
        pair.append([])
        self.assertEqual(told, before)

    def test_refused_stays_too(self):
        row = [[1, 2], [3, 4]]
        places = [2, 2]
        for kind, call in [(errors.NoRow, lambda: rows.heads(row)), (errors.NoPair, lambda: turns.rests((row, row))),
                           (errors.NoPlace, lambda: rows.row_of(places))]:
            self.assertRaises(kind, call)
        self.assertEqual((row, places), ([[1, 2], [3, 4]], [2, 2]))


class Told(unittest.TestCase):
    def test_every_list_told_is_a_new_one(self):
        row = [(1, 2), (4, 5)]
        for pair in [(row, row), (row, []), ([], [])]:
            calls = [lambda deed=deed: deed(pair[0]) for deed in
                     (alone.step, alone.steps, alone.comers, alone.runs, alone.row_with, alone.halfway)]
            calls += [lambda far_on=far_on: far.pair_behind(pair, "one", far_on) for far_on in (0, 1, 9)]
            for kind in KINDS:
                calls += [lambda kind=kind: kinds.turn_within(5, kind, pair, "one"),
                          lambda kind=kind: kinds.turn_within(5, kind, pair, "other"),
                          lambda kind=kind: kinds.ends_within(5, kind, pair[0]),
                          lambda kind=kind: kinds.line_within(5, kind, pair),
                          lambda kind=kind: kinds.pair_within(5, kind, pair[0], 0)]
            calls += [lambda: numbered.pair_of(5, 0), lambda: numbered.pair_of(5, 777), lambda: tables.Table(pair).pair(),
                      lambda: tables.Table(pair).line(), lambda: tables.Table(pair).lines(), lambda: texts.read_row("-"),
                      lambda: texts.read_pair("-|3"), lambda: texts.read_deeds("set -|-\nturn 1\n")]
            for call in calls + [
                         lambda: lines.line_of(pair), lambda: far.pair_at(pair[0], 0), lambda: ladders.row_by(5, 11),
                         lambda: far.pair_at(pair[1], ladders.way_of(pair[1])), lambda: ladders.row_by(1, 1),
                         lambda: alone.alone_behind(pair[0], 0), lambda: alone.alone_behind(pair[0], 99),
                         lambda: alone.meeting(pair[0], pair[1]),
                         lambda: rows.turned_over(pair[0], 0), lambda: rows.turned_over(pair[0], 3),
                         lambda: rows.about(pair[0], 5), lambda: rows.row_of([]), lambda: rows.row_of([1]),
                         lambda: turns.turn(pair, "one"), lambda: turns.turn(pair, "other"),
                         lambda: turns.rests(pair), lambda: turns.done(pair, ""), lambda: turns.done(pair, "1"),
                         lambda: turns.by_turns(pair, many=0), lambda: turns.by_turns(pair, many=20)]:
                told = call()
                before = copy.deepcopy(told)
                spoil(told)
                self.assertEqual(call(), before)

    def test_no_list_stands_twice(self):
        row = [(1, 2), (4, 5)]
        for pair in [(row, row), (row, []), ([], []), ([], row)]:
            handed = {id(found) for found in lists_in(pair)}
            for told in [turns.turn(pair, "one"), turns.turn(pair, "other"), turns.done(pair, ""),
                         turns.by_turns(pair, many=20), turns.by_turns(pair, first="one", many=20),
                         lines.line_of(pair), far.pair_at(row, 0), far.pair_at([], 0), far.pair_behind(pair, "one", 0),
                         far.pair_behind(pair, "other", 5), alone.step(pair[0]), alone.steps(pair[0], many=30),
                         alone.comers(pair[0]), alone.meeting(pair[0], pair[1]), alone.halfway(pair[0]),
                         alone.runs(pair[0]), alone.row_with(pair[0]), alone.alone_behind(pair[0], 0),
                         [kinds.ends_within(5, kind, pair[0]) for kind in KINDS],
                         [kinds.turn_within(5, kind, pair, who) for kind in KINDS for who in ("one", "other")],
                         [kinds.line_within(5, kind, pair) for kind in KINDS],
                         [kinds.pair_within(5, kind, pair[0], 0) for kind in KINDS],
                         numbered.pair_of(5, 0), tables.Table(pair).pair(), tables.Table(pair).line(),
                         texts.read_pair("-|-"), texts.read_deeds("set -|-\nset -|-\n")]:
                found = [id(one) for one in lists_in(told)]
                self.assertEqual(len(found), len(set(found)))
                self.assertFalse(handed & set(found))

    def test_lists_and_tuples_in_one_anothers_place(self):
        for one in SOME_ROWS:
            for other in SOME_ROWS[:4]:
                due = asked_all((one, other), "other", 4)
                for way in written_ways(one):
                    for side in written_ways(other):
                        self.assertEqual(asked_all((way, side), "other", 4), due)
                        self.assertEqual(asked_all([way, side], "other", 4), due)

    def test_kinds_of_what_is_told(self):
        pair = [((1, 2), [4, 5]), [[7, 9]]]
        row = pair[1]
        for told in [rows.turned_over(pair[0], 0), rows.turned_over(pair[0], 9), rows.about(pair[0], 9),
                     rows.row_of((3, 1)), lines.line_of(pair), ladders.row_by(5, 11)[0], alone.step(row),
                     alone.runs(row), alone.row_with(row), alone.alone_behind(row, 0), alone.alone_behind(row, 2),
                     alone.meeting(row, row)[0], alone.meeting(row, pair[0])[0]]:
            self.assertTrue(told_row(told))
        for told in [turns.turn(pair, "one"), turns.turn(pair, "other"), turns.done(pair, ""), far.pair_at(row, 0),
                     far.pair_at(row, 5), far.pair_behind(pair, "one", 0), far.pair_behind(pair, "one", 1),
                     alone.halfway(row), tables.Table(pair).pair(), numbered.pair_of(9, 5), texts.read_pair("3|-")]:
            self.assertTrue(told_pair(told))
        for kind in KINDS:
            given = list(kind)
            ends = kinds.ends_within(9, given, row)
            self.assertIs(type(ends), tuple)
            for told in [kinds.turn_within(9, given, pair, "one"), kinds.turn_within(9, given, pair, "other"),
                         kinds.pair_within(9, given, row, 1), *ends]:
                self.assertTrue(told_pair(told))
            self.assertIs(type(kinds.line_within(9, given, pair)), tuple)
            self.assertTrue(told_row(kinds.line_within(9, given, pair)[0]))
            self.assertIs(type(kinds.pairs_within(9, given, row)), int)
        for told in [alone.steps(row), alone.comers(row)]:
            self.assertIs(type(told), list)
            self.assertTrue(all(map(told_row, told)))
        for told in [ladders.ladder(row, 9), ladders.row_by(5, 11), alone.meeting(row, row)]:
            self.assertIs(type(told), tuple)
        for told in [ladders.way_of(row), lines.how_far(pair), lines.ahead(pair, pair), lines.sum_kept(pair),
                     far.round_of(pair), far.first_time(pair, "one", pair), far.until_rest(pair, "one"),
                     alone.turns_alone(row), *ladders.ladder(row, 9), *alone.meeting(row, row)[1:]]:
            self.assertIs(type(told), int)
        self.assertIs(type(lines.word_between(pair, pair)), str)
        self.assertIs(type(turns.by_turns(pair)), list)
        self.assertIs(type(turns.rests(pair)), list)

    def test_what_is_told_may_be_handed_in(self):
        row = rows.row_of([2 * k for k in range(1, 301)])
        self.assertEqual(rows.heads(row), 300)
        self.assertEqual(rows.about(rows.about(row, 700), 700), row)
        pair = turns.done((row, rows.about(row, 600)), "12" * 40)
        self.assertEqual(turns.done(pair, "21" * 40), (row, rows.about(row, 600)))

    def test_what_is_told_of_any_size_may_be_handed_in(self):
        row = rows.row_of([HALF + 3 * k for k in range(300)])
        way = ladders.way_of(row)
        self.assertEqual(way, way_climbed(row))
        pair = far.pair_at(row, way // 3)
        self.assertEqual(turns.turn(pair, "other" if way // 3 % 2 == 0 else "one"), far.pair_at(row, way // 3 + 1))
        self.assertEqual(lines.sum_kept(pair), rows.added(row))
        self.assertEqual(answer(lines.how_far, pair), ("TooMany", {"many": 51}))
        self.assertEqual(alone.runs(alone.row_with(row)), row)
        self.assertEqual(alone.row_with(alone.runs(row)), row)
        line = alone.runs(THIRTY[2])
        self.assertEqual(far.pair_at(line, ladders.way_of(line) // 2), (THIRTY[2], THIRTY[2]))
        told, n = ladders.row_by(*ladders.ladder(THIRTY[2], FORTY))
        there = lines.how_far(far.pair_at(told, ladders.way_of(told) // 3 * 2))
        self.assertEqual(there, ladders.way_of(told) // 3 * 2)
        pair = far.pair_behind((told, []), "one", ladders.ladder(told, n)[1] * there)
        self.assertEqual(far.pair_behind(pair, "other", far.round_of(pair) * there), pair)
        self.assertEqual(ladders.row_by(*ladders.ladder(told, n)), (told, n))


class Wholes(unittest.TestCase):
    def test_kin_of_ints_lists_and_tuples(self):
        few = IntEnum("few", "ONE TWO")
        span = namedtuple("span", "first last")
        self.assertIs(rows.is_row([span(few.ONE, few.TWO)]), True)
        self.assertEqual(rows.heads_to([span(1, 2)], few.ONE), 1)
        self.assertEqual(rows.turned_over([span(1, 2)], few.TWO), [(1, 1)])
        self.assertTrue(told_pair(turns.turn(span([], []), "one")))
        wordy = Enum("wordy", "ONE TWO", type=int)
        for some in (few, wordy):
            self.assertEqual(texts.show_row([span(some.ONE, some.TWO), (4, 4)]), "1-2,4")
            self.assertEqual(texts.show_deeds([("gone", "one", some.TWO)]), "go 1 2\n")
        self.assertEqual(kinds.pairs_within(few.TWO, span(0, few.ONE), [span(few.TWO, few.TWO)]), 3)

    def test_truths_are_no_whole_numbers(self):
        row = [(1, 2)]
        for truth in (True, False):
            for kind, call in [
                (errors.NoPlace, lambda: rows.shows(row, truth)), (errors.NoPlace, lambda: rows.heads_to(row, truth)),
                (errors.NoPlace, lambda: rows.turned_over(row, truth)), (errors.NoNumber, lambda: rows.nth(row, truth)),
                (errors.NoPlaces, lambda: rows.about([], truth)), (errors.NoPlace, lambda: rows.row_of([truth])),
                (errors.NoNumber, lambda: turns.by_turns((row, row), many=truth)),
                (errors.NoPlaces, lambda: ladders.ladder([], truth)), (errors.NoNumber, lambda: ladders.row_by(truth, 1)),
                (errors.NoNumber, lambda: ladders.row_by(1, truth)), (errors.NoTurns, lambda: far.pair_at(row, truth)),
                (errors.NoTurns, lambda: far.pair_behind((row, row), "one", truth)),
                (errors.NoPlaces, lambda: kinds.pairs_within(truth, (0, 0), [])),
                (errors.NoKind, lambda: kinds.pairs_within(1, (truth, 0), [])),
                (errors.NoKind, lambda: kinds.pairs_within(1, (0, truth), [])),
                (errors.NoTurns, lambda: kinds.pair_within(1, (0, 0), [], truth)),
                (errors.NoPlaces, lambda: numbered.many_of(truth, "")),
                (errors.NoNumber, lambda: numbered.pair_of(1, truth)),
                (errors.NoTurns, lambda: tables.Table().gone("one", truth)),
                (errors.NoPlace, lambda: tables.Table().by_hand("one", truth)),
                (errors.NoNumber, lambda: alone.steps(row, many=truth)),
                (errors.NoTurns, lambda: alone.alone_behind(row, truth)),
            ]:
                self.assertRaises(kind, call)

    def test_sizes(self):
        row = [(HALF + 3 * k, HALF + 3 * k + 1) for k in range(30)]
        self.assertEqual(rows.heads(row), 60)
        self.assertEqual(rows.added(row), 60 * HALF + sum(6 * k + 1 for k in range(30)))
        self.assertRaises(errors.NoNumber, rows.nth, row, 10 ** 2500 - 1)
        self.assertRaises(errors.NoPlaces, rows.about, row, HALF)
        self.assertEqual(rows.shows(row, 10 ** 2500), False)


if __name__ == "__main__":
    unittest.main()
