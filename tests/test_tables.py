"""Point 25: tables."""

import copy
import random
import unittest

from tests.helper import (
    FIFTY, FIFTY_ONE, FORTY, HALF, LONG_PAIRS, NO_PAIRS, NO_TURNS, NO_WHOS, THIRTY, Prickly, RefusalCase, anything,
    told_pair, told_row, written_ways,
)
from turntell import errors
from turntell.far import pair_at, pair_behind
from turntell.ladders import way_of
from turntell.lines import how_far, line_of
from turntell.rows import turned_over
from turntell.tables import Table
from turntell.turns import turn

BOTH = ("one", "other")
START = ([(1, 2)], [(2, 2)])
NO_PLACES = anything() + [0, -1, "", "1", [], [1], (1,), -FORTY]


def seen(table):
    """All that a Table tells, and how often deeds can be done back and again."""
    told = [table.pair(), table.deeds(), len(table)]
    for ask in (table.line, table.far, table.lines):
        try:
            told.append(ask())
        except errors.TooMany as error:
            told.append(error.many)
    return told


def all_told(table):
    """All that a Table tells, of a twin that is done again and of one that is done back to the first pair, too."""
    told = [seen(table)]
    for way in ("again", "back"):
        twin = table.twin()
        try:
            while True:
                getattr(twin, way)()
                told.append(seen(twin))
        except errors.NoneYet:
            pass
    return told


def do(table, deed):
    """Do a deed, as it is told, on a Table."""
    name, *handed = deed
    return getattr(table, name)(*handed)


def behind(pair, deed):
    """The pair behind a deed."""
    name, *handed = deed
    if name == "turned":
        return turn(pair, *handed)
    if name == "gone":
        return pair_behind(pair, *handed)
    if name == "set_to":
        return handed[0]
    who, place = handed
    sides = dict(zip(BOTH, pair))
    sides[who] = turned_over(sides[who], place)
    return (sides["one"], sides["other"])


def line_or_many(pair):
    """The row of a pair's line, 51 where that has too many stretches."""
    try:
        return line_of(pair)
    except errors.TooMany as error:
        return error.many


def some_deeds(many, seed):
    """So many deeds of each sort, and steps back and again."""
    chance = random.Random(seed)
    deeds = []
    for _ in range(many):
        who = chance.choice(BOTH)
        deeds.append(chance.choice([
            ("turned", who), ("turned", who), ("gone", who, chance.choice([0, 1, 5, chance.randrange(FORTY), 10 ** 2499])),
            ("by_hand", who, chance.choice([1, 2, 3, chance.randrange(1, 40), FORTY])),
            ("set_to", chance.choice([START, ([], []), ([(3, 9)], [(1, 1), (4, 8)]), pair_at(THIRTY[seed % 4], 59)])),
            ("back",), ("back",), ("again",),
        ]))
    return deeds


class Making(RefusalCase):
    def test_of_nothing(self):
        for table in (Table(), Table(None), Table(pair=None)):
            self.assertEqual(table.pair(), ([], []))
            self.assertTrue(told_pair(table.pair()))
            self.assertEqual((table.line(), table.far(), table.deeds(), table.lines(), len(table)), ([], 0, [], [(0, [])], 0))

    def test_of_a_pair(self):
        for way in written_ways([(1, 2), (5, 9)]):
            for pair in [(way, []), [way, ()], (way, way)]:
                table = Table(pair)
                due = ([tuple(s) for s in pair[0]], [tuple(s) for s in pair[1]])
                self.assertEqual(table.pair(), due)
                self.assertTrue(told_pair(table.pair()))
                self.assertEqual((table.line(), table.far()), (line_of(due), how_far(due)))
                self.assertEqual(table.lines(), [(0, line_of(due))])
                self.assertEqual(Table(pair=pair), table)

    def test_no_pairs(self):
        for at, thing in enumerate(NO_PAIRS):
            if thing is not None:
                with self.subTest(at=at):
                    self.refused(errors.NoPair, Table, thing)
        self.refused(errors.NoPair, Table, Table())

    def test_methods_stand_in_the_class(self):
        for name in ("__init__", "__eq__", "__len__", "turned", "gone", "by_hand", "set_to", "back", "again", "pair", "line",
                     "far", "deeds", "lines", "twin"):
            self.assertIn(name, vars(Table))


class Deeds(RefusalCase):
    def test_each_deed(self):
        table = Table(START)
        self.assertIsNone(table.turned("one"))
        pair = turn(START, "one")
        self.assertEqual(table.pair(), pair)
        self.assertIsNone(table.gone("other", 7))
        pair = pair_behind(pair, "other", 7)
        self.assertEqual(table.pair(), pair)
        self.assertIsNone(table.by_hand("one", 9))
        pair = (turned_over(pair[0], 9), pair[1])
        self.assertEqual(table.pair(), pair)
        self.assertIsNone(table.by_hand("other", 4))
        pair = (pair[0], turned_over(pair[1], 4))
        self.assertEqual(table.pair(), pair)
        self.assertIsNone(table.set_to([[[3, 5]], ((1, 1), (7, HALF))]))
        self.assertEqual(table.pair(), ([(3, 5)], [(1, 1), (7, HALF)]))
        self.assertEqual(table.deeds(), [
            ("turned", "one"), ("gone", "other", 7), ("by_hand", "one", 9), ("by_hand", "other", 4),
            ("set_to", ([(3, 5)], [(1, 1), (7, HALF)])),
        ])
        self.assertEqual(len(table), 5)
        self.assertTrue(told_pair(table.deeds()[4][1]))
        self.assertIsNone(table.back())
        self.assertEqual(table.pair(), pair)
        self.assertIsNone(table.again())
        self.assertEqual(len(table), 5)

    def test_by_names(self):
        table = Table(pair=START)
        table.turned(who="other")
        table.gone(turns=3, who="one")
        table.by_hand(place=8, who="other")
        table.set_to(pair=START)
        due = [("turned", "other"), ("gone", "one", 3), ("by_hand", "other", 8), ("set_to", START)]
        self.assertEqual(table.deeds(), due)

    def test_deeds_that_change_nothing(self):
        table = Table()
        deeds = [("turned", "one"), ("turned", "other"), ("gone", "one", 0), ("gone", "other", FORTY), ("set_to", ([], []))]
        for number, deed in enumerate(deeds, start=1):
            do(table, deed)
            self.assertEqual((table.pair(), len(table)), (([], []), number))
        self.assertEqual(table.deeds(), deeds)
        self.assertEqual(table.lines(), [(0, [])])
        for number in range(5, 0, -1):
            self.assertEqual(len(table), number)
            table.back()
        self.refused(errors.NoneYet, table.back)

    def test_gone_and_then_more(self):
        for row in THIRTY + FIFTY:
            pair = pair_at(row, way_of(row) // 3)
            for first in (0, 1, 2, HALF + 1, way_of(row)):
                for more in (0, 1, FORTY, 10 ** 2499):
                    parts, whole = Table(pair), Table(pair)
                    parts.gone("one", first)
                    parts.gone("one" if first % 2 == 0 else "other", more)
                    whole.gone("one", first + more)
                    self.assertEqual(parts, whole)
                    self.assertEqual(parts.lines(), [(0, row)])

    def test_by_hand_twice(self):
        for row in THIRTY:
            pair = pair_at(row, way_of(row) // 7)
            for who in BOTH:
                for place in (1, 2, 40, HALF, FORTY, FORTY + 2):
                    table = Table(pair)
                    table.by_hand(who, place)
                    self.assertNotEqual(table.pair(), pair)
                    table.by_hand(who, place)
                    self.assertEqual((table.pair(), table.line(), table.far()), (pair, row, how_far(pair)))
                    self.assertEqual(len(table), 2)

    def test_held_against_pairs_and_deeds_in_lists(self):
        told = []
        for seed in range(12):
            table, pairs, stands, undone = Table(START), [START], [], []
            for deed in some_deeds(300, seed):
                try:
                    do(table, deed)
                    if deed == ("back",):
                        undone.append((pairs.pop(), stands.pop()))
                    elif deed == ("again",):
                        pair, stand = undone.pop()
                        pairs.append(pair)
                        stands.append(stand)
                    else:
                        pairs.append(behind(pairs[-1], deed))
                        stands.append(deed)
                        undone = []
                except errors.NoneYet:
                    self.assertFalse(stands if deed == ("back",) else undone)
                except errors.TooMany:
                    self.refused_many(line_of, pairs[-1])
                self.assertEqual((table.pair(), table.deeds(), len(table)), (pairs[-1], stands, len(stands)))
            lines = [line_or_many(pair) for pair in pairs]
            if 51 in lines:
                self.refused_many(table.lines)
            else:
                due = [(at, row) for at, row in enumerate(lines) if at == 0 or row != lines[at - 1]]
                self.assertEqual(table.lines(), due)
                self.assertEqual((table.line(), table.far()), (lines[-1], how_far(pairs[-1])))
            told.append(51 in lines)
        self.assertEqual(set(told), {False, True})

    def test_three_hundred_deeds(self):
        table = Table((THIRTY[2], []))
        lines = [(0, THIRTY[2])]
        for number in range(1, 76):
            row = THIRTY[number % 4]
            far = 2 * FORTY + number
            table.set_to((row, []))
            table.by_hand("one", far)
            table.turned("other")
            table.gone("one", HALF * number)
            lines += [(4 * number - 3, row), (4 * number - 2, row + [(far, far)])]
        self.assertEqual((len(table), len(table.deeds())), (300, 300))
        self.assertEqual(table.lines(), lines)
        twin = table.twin()
        for _ in range(300):
            table.back()
        self.refused(errors.NoneYet, table.back)
        self.assertEqual((table.pair(), len(table)), ((THIRTY[2], []), 0))
        for _ in range(300):
            table.again()
        self.refused(errors.NoneYet, table.again)
        self.assertEqual(seen(table), seen(twin))


class BackAndAgain(RefusalCase):
    def test_to_both_ends(self):
        table = Table(START)
        self.refused(errors.NoneYet, table.back)
        self.refused(errors.NoneYet, table.again)
        deeds = [("turned", "one"), ("by_hand", "other", 5), ("gone", "one", 9), ("set_to", ([(4, 4)], []))]
        told = [seen(table)]
        for deed in deeds:
            do(table, deed)
            self.refused(errors.NoneYet, table.again)
            told.append(seen(table))
        for _ in range(2):
            for at in (3, 2, 1, 0):
                table.back()
                self.assertEqual(seen(table), told[at])
            self.refused(errors.NoneYet, table.back)
            self.assertEqual(seen(table), told[0])
            for at in (1, 2, 3, 4):
                table.again()
                self.assertEqual(seen(table), told[at])
            self.refused(errors.NoneYet, table.again)
            self.assertEqual(seen(table), told[4])

    def test_no_again_behind_a_new_deed(self):
        for deed in [("turned", "one"), ("gone", "one", 0), ("by_hand", "one", 1), ("set_to", START)]:
            table = Table(START)
            for _ in range(3):
                table.turned("other")
            table.back()
            table.back()
            do(table, deed)
            before = all_told(table)
            self.refused(errors.NoneYet, table.again)
            self.assertEqual(all_told(table), before)
            self.assertEqual(table.deeds(), [("turned", "other"), deed])
            table.back()
            table.again()
            self.refused(errors.NoneYet, table.again)
            self.assertEqual(table.deeds(), [("turned", "other"), deed])

    def test_done_back_is_told_no_more(self):
        table = Table(START)
        table.by_hand("one", 50)
        table.by_hand("one", 60)
        table.back()
        self.assertEqual(table.deeds(), [("by_hand", "one", 50)])
        self.assertEqual([number for number, _ in table.lines()], [0, 1])
        self.assertEqual(len(table), 1)


class Refused(RefusalCase):
    def tables(self):
        """Tables with deeds that stand, with deeds done back, and on a long line."""
        plain, undone, long = Table(START), Table(START), Table(LONG_PAIRS[0])
        for table in (plain, undone, long):
            for number in range(1, 5):
                table.by_hand("one", number)
                table.turned("other")
        for _ in range(3):
            undone.back()
            long.back()
        return [Table(), plain, undone, long]

    def refused_and_kept(self, kind, table, name, *handed):
        """A deed is refused, and the Table is as it was, what was done back included."""
        before = seen(table)
        error = self.refused(kind, getattr(table, name), *handed)
        self.assertEqual(seen(table), before)
        return error

    def test_each_refusal(self):
        for table in self.tables():
            before = all_told(table)
            for thing in NO_WHOS:
                self.refused_and_kept(errors.NoWho, table, "turned", thing)
                self.refused_and_kept(errors.NoWho, table, "gone", thing, 0)
                self.refused_and_kept(errors.NoWho, table, "gone", thing, None)
                self.refused_and_kept(errors.NoWho, table, "by_hand", thing, 1)
                self.refused_and_kept(errors.NoWho, table, "by_hand", thing, 0)
            for thing in NO_TURNS:
                self.refused_and_kept(errors.NoTurns, table, "gone", "one", thing)
            for thing in NO_PLACES:
                self.refused_and_kept(errors.NoPlace, table, "by_hand", "other", thing)
            self.assertEqual(all_told(table), before)

    def test_no_pairs(self):
        for table in self.tables():
            before = all_told(table)
            for thing in NO_PAIRS + [Table(START)]:
                self.refused_and_kept(errors.NoPair, table, "set_to", thing)
            self.assertEqual(all_told(table), before)

    def test_again_behind_what_is_refused(self):
        table = Table(START)
        table.turned("one")
        table.gone("one", 3)
        due = seen(table)
        table.back()
        self.refused(errors.NoWho, table.turned, None)
        self.refused(errors.NoTurns, table.gone, "one", -1)
        self.refused(errors.NoPlace, table.by_hand, "one", 0)
        self.refused(errors.NoPair, table.set_to, None)
        table.again()
        self.assertEqual(seen(table), due)

    def test_too_many_of_gone(self):
        table = Table(LONG_PAIRS[0])
        table.by_hand("one", 5)
        table.back()
        before = all_told(table)
        for who in BOTH:
            for turns in (0, 1, FORTY):
                self.assertEqual(self.refused_and_kept(errors.TooMany, table, "gone", who, turns).many, 51)
        self.refused_and_kept(errors.NoWho, table, "gone", None, None)
        self.refused_and_kept(errors.NoTurns, table, "gone", "one", None)
        self.assertEqual(all_told(table), before)
        table.again()
        self.assertEqual(table.deeds(), [("by_hand", "one", 5)])

    def test_turns_by_hand_and_settings_are_never_too_many(self):
        table = Table()
        for pair in LONG_PAIRS:
            table.set_to(pair)
            table.turned("one")
            table.by_hand("other", FORTY + 9)
            self.refused_many(table.line)
            self.refused_many(table.far)
            self.refused_many(table.lines)
            self.refused_many(table.gone, "one", 0)
        self.assertEqual(len(table), 3 * len(LONG_PAIRS))


class Lines(RefusalCase):
    def test_line_and_far(self):
        for row in THIRTY + FIFTY:
            for far in (0, 1, way_of(row) // 3, way_of(row)):
                table = Table(pair_at(row, far))
                self.assertEqual((table.line(), table.far()), (row, far))
                self.assertTrue(told_row(table.line()))

    def test_only_deeds_that_led_to_another_line(self):
        table = Table(([(1, 2)], []))
        table.turned("other")                       # 1: the same line
        table.gone("one", 10 ** 30)                 # 2: the same line
        table.set_to(([(4, 4)], []))                # 3
        table.set_to(([], [(4, 4)]))                # 4: the same line
        table.set_to(([], [(1, 2)]))                # 5: the first line again
        table.by_hand("other", 9)                   # 6
        table.by_hand("other", 9)                   # 7: and back by hand
        due = [(0, [(1, 2)]), (3, [(4, 4)]), (5, [(1, 2)]), (6, [(1, 2), (9, 9)]), (7, [(1, 2)])]
        self.assertEqual(table.lines(), due)
        table.back()
        self.assertEqual(table.lines(), due[:4])
        for _ in range(4):
            table.back()
        self.assertEqual(table.lines(), due[:1])
        table.by_hand("one", 3)
        self.assertEqual([number for number, _ in table.lines()], [0, 3])
        for number, row in table.lines():
            self.assertIs(type(number), int)
            self.assertTrue(told_row(row))

    def test_too_many_of_any_of_them(self):
        for long in LONG_PAIRS + [(FIFTY_ONE[0], [])]:
            first = Table(long)
            self.refused_many(first.lines)
            first.set_to(START)
            self.refused_many(first.lines)
            self.assertEqual(first.line(), line_of(START))
            self.assertEqual(first.far(), how_far(START))
            first.gone("one", 3)
            middle = Table(START)
            middle.set_to(long)
            self.refused_many(middle.line)
            self.refused_many(middle.far)
            middle.set_to(([], []))
            self.refused_many(middle.lines)
            self.assertEqual((middle.line(), middle.far()), ([], 0))
            middle.back()
            middle.back()
            self.assertEqual(middle.lines(), [(0, line_of(START))])
            middle.again()
            self.refused_many(middle.lines)


class Alike(RefusalCase):
    def test_same_pair_by_other_deeds(self):
        one, other = Table(START), Table()
        other.set_to(START)
        self.assertTrue(one == other)
        self.assertFalse(one != other)
        one.turned("one")
        self.assertFalse(one == other)
        self.assertTrue(one != other)
        one.turned("one")
        self.assertTrue(one == other)
        self.assertTrue(one == one)
        self.assertEqual(Table([[[1, 2]], ()]), Table(([(1, 2)], [])))

    def test_other_pairs(self):
        pairs = [([], []), ([(1, 1)], []), ([], [(1, 1)]), START, START[::-1], ([(1, HALF)], [(2, 2)]), LONG_PAIRS[0]]
        for at, pair in enumerate(pairs):
            for there, other in enumerate(pairs):
                self.assertIs(Table(pair) == Table(other), at == there)
                self.assertIs(Table(pair) != Table(other), at != there)

    def test_things_that_are_no_table(self):
        class Yes:
            """A thing that says it is equal to anything."""

            def __eq__(self, other):
                return True

        for thing in anything() + [([], []), [[], []], START, "", 0, [], (), Table, Yes()]:
            self.assertFalse(Table() == thing)
            self.assertTrue(Table() != thing)
            self.assertFalse(Table(START) == thing)
            self.assertTrue(Table(START) != thing)
        self.assertFalse(Table() == Prickly())

    def test_length(self):
        table = Table()
        self.assertEqual(len(table), 0)
        self.assertFalse(table)
        table.turned("one")
        self.assertTrue(table)


class Twins(RefusalCase):
    def worked(self):
        """A Table with deeds that stand and deeds done back."""
        table = Table(START)
        for deed in [("turned", "one"), ("set_to", ([(3, 3)], [(1, 4)])), ("by_hand", "one", 9), ("gone", "other", 4)]:
            do(table, deed)
        table.back()
        table.back()
        return table

    def test_has_all(self):
        table = self.worked()
        twin = table.twin()
        self.assertIs(type(twin), Table)
        self.assertIsNot(twin, table)
        self.assertEqual(twin, table)
        self.assertEqual(all_told(twin), all_told(table))
        twin.again()
        twin.again()
        self.refused(errors.NoneYet, twin.again)
        self.assertEqual(twin.deeds()[2:], [("by_hand", "one", 9), ("gone", "other", 4)])
        self.assertEqual(all_told(Table().twin()), all_told(Table()))

    def test_neither_changes_the_other_one(self):
        for changes in [[("turned", "one")], [("back",)], [("again",)], [("back",)] * 2 + [("by_hand", "other", 2)],
                        [("again",)] * 2, [("set_to", ([], []))], [("gone", "one", 1)], [("back",), ("again",)] * 3]:
            table = self.worked()
            twin = table.twin()
            before = all_told(table)
            for deed in changes:
                do(twin, deed)
            self.assertEqual(all_told(table), before)
            for deed in changes:
                do(table, deed)
            self.assertEqual(all_told(table), all_told(twin))
            other = self.worked()
            twin = other.twin()
            for deed in changes:
                do(other, deed)
            self.assertEqual(all_told(twin), before)


class Own(RefusalCase):
    def spoil(self, thing):
        """Change every list that stands in a thing."""
        if isinstance(thing, (list, tuple)):
            for part in thing:
                self.spoil(part)
        if isinstance(thing, list):
            thing.append("spoilt")
            thing.reverse()

    def test_what_is_told_is_the_askers_own(self):
        table = Table(([(1, 2)], [(4, 5)]))
        table.set_to(([(2, 3)], [(7, 8)]))
        table.turned("one")
        table.gone("one", 0)
        table.set_to(([(2, 2)], []))
        table.by_hand("other", 6)
        table.back()
        before = copy.deepcopy(all_told(table))
        for ask in (table.pair, table.line, table.deeds, table.lines):
            told = ask()
            again = copy.deepcopy(told)
            self.spoil(told)
            self.assertEqual(ask(), again)
            self.assertEqual(all_told(table), before)
        for _ in range(4):
            table.back()
            before = copy.deepcopy(all_told(table))
            for ask in (table.pair, table.line, table.deeds, table.lines):
                self.spoil(ask())
            self.assertEqual(all_told(table), before)

    def test_no_list_stands_twice(self):
        table = Table(([(1, 2)], []))
        table.set_to(([(1, 2)], []))
        table.gone("one", 0)
        pair, deeds, lines = table.pair(), table.deeds(), table.lines()
        found = [*pair, *deeds[0][1], deeds, lines, *[row for _, row in lines], *table.pair(), *table.deeds()[0][1]]
        self.assertEqual(len({id(thing) for thing in found}), len(found))

    def test_lists_handed_in_are_not_kept(self):
        stretch = [1, 2]
        row = [stretch]
        pair = [row, []]
        table, other = Table(pair), Table()
        other.set_to(pair)
        before = copy.deepcopy([all_told(table), all_told(other)])
        stretch[1] = 9
        row.append((20, 21))
        pair[1] = [(3, 3)]
        self.assertEqual([all_told(table), all_told(other)], before)
        self.assertEqual(table.pair(), ([(1, 2)], []))

    def test_what_is_handed_in_stays(self):
        pair = [[[1, 2], (5, 6)], ((3, 3),)]
        before = copy.deepcopy(pair)
        for table in (Table(pair), Table()):
            table.set_to(pair)
            table.turned("one")
            table.by_hand("one", 5)
            table.gone("other", 5)
            table.back()
            table.again()
        self.assertEqual(pair, before)
        self.assertEqual([type(row) for row in pair], [list, tuple])


if __name__ == "__main__":
    unittest.main()
