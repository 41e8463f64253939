"""Point 26: texts of rows, pairs and deeds."""

import re
import unittest
from itertools import product

from tests.helper import (
    FAR_ROWS, FIFTY_ONE, FORTY, HALF, LONG_PAIRS, NO_PAIRS, NO_ROWS, SOME_ROWS, RefusalCase, anything, pair_from,
    pairs_within, told_pair, told_row, written_ways,
)
from turntell import errors
from turntell.ladders import way_of
from turntell.rows import is_row, row_of
from turntell.tables import Table
from turntell.texts import read_deeds, read_pair, read_row, show_deeds, show_pair, show_row

NUMBER = "[1-9][0-9]*"
STRETCH = f"{NUMBER}(?:-{NUMBER})?"
ROW = f"(?:-|{STRETCH}(?:,{STRETCH})*)"
PAIR = rf"{ROW}\|{ROW}"
DEED = rf"(?:turn [12]|go [12] (?:0|{NUMBER})|hand [12] {NUMBER}|set {PAIR})\n"
ROW_TAILS = ["", "9999999"]
PAIR_TAILS = [part + rest for part in ("", "9999999") for rest in ("", "|-")]
DEED_TAILS = ["", *(part + "\n" for part in PAIR_TAILS), *(
    word[at:] for word in ("turn 1\n", "go 1 9\n", "hand 1 9\n", "set 9|-\n") for at in range(len(word))
)]
NO_TEXTS = [thing for thing in anything() if not isinstance(thing, str)] + [
    0, 5, [], ["-"], ("-", "|", "-"), b"-", b"-|-", bytearray(b"turn 1\n"), {"-": "-"}, [(1, 2)], ([], []),
]


def row_told(text):
    """The row of a text of the form of rows, None where it is none, or not written so."""
    if text == "-":
        return []
    row = []
    for part in text.split(","):
        first, _, last = part.partition("-")
        row.append((int(first), int(last or first)))
        if last and int(last) <= int(first):
            return None
    return row if is_row(row) else None


def pair_told(text):
    """The pair of a text of the form of pairs, None where it is none."""
    pair = tuple(row_told(part) for part in text.split("|"))
    return None if None in pair else pair


def deeds_told(text):
    """The deeds of a text of the form of deeds, None where one of their rows is none."""
    deeds = []
    for line in text.splitlines():
        word, *rest = line.split(" ")
        if word == "set":
            deeds.append(("set_to", pair_told(rest[0])))
            if deeds[-1][1] is None:
                return None
        else:
            who = {"1": "one", "2": "other"}[rest[0]]
            deeds.append(({"turn": "turned", "go": "gone", "hand": "by_hand"}[word], who, *map(int, rest[1:])))
    return deeds


class Reader:
    """One of the three readings, told a second way: by a pattern, and tried with what may go on."""

    def __init__(self, read, show, pattern, told, tails):
        self.read, self.show, self.told, self.tails = read, show, told, tails
        self.pattern = re.compile(pattern)

    def due(self, text):
        """What a text tells, None where it is no such text."""
        return self.told(text) if self.pattern.fullmatch(text) else None

    def begun(self, text):
        """How many signs of a text begin some such text at the most."""
        return max(many for many in range(len(text) + 1) if self.begins(text[:many]))

    def begins(self, text):
        """Whether some such text begins so."""
        return any(self.due(text + tail) is not None for tail in self.tails)


ROWS = Reader(read_row, show_row, ROW, row_told, ROW_TAILS)
PAIRS = Reader(read_pair, show_pair, PAIR, pair_told, PAIR_TAILS)
DEEDS = Reader(read_deeds, show_deeds, f"(?:{DEED})*", deeds_told, DEED_TAILS)


class TextCase(RefusalCase):
    def held(self, reader, text):
        """A text is read as a pattern tells, and written just so, or refused at the sign that the pattern tells."""
        due = reader.due(text)
        if due is None:
            at = self.refused(errors.NoText, reader.read, text).at
            self.assertEqual(at, reader.begun(text), repr(text))
            self.assertIs(type(at), int)
        else:
            told = reader.read(text)
            self.assertEqual(told, due)
            self.assertEqual(reader.show(told), text)

    def at(self, reader, text):
        """The field of a refusal."""
        return self.refused(errors.NoText, reader.read, text).at

    def spoilt(self, reader, text, signs):
        """A text with each sign left out, put in or put in place of another one, and each part of it."""
        for at in range(len(text) + 1):
            self.held(reader, text[:at])
            self.held(reader, text[at:])
            self.held(reader, text[:at] + text[at + 1:])
            for sign in signs:
                self.held(reader, text[:at] + sign + text[at:])
                self.held(reader, text[:at] + sign + text[at + 1:])


class Rows(TextCase):
    def test_by_hand(self):
        for row, text in [
            ([], "-"), ([(1, 1)], "1"), ([(3, 3)], "3"), ([(3, 20)], "3-20"), ([(1, 2), (4, 4), (6, 9)], "1-2,4,6-9"),
            ([(HALF, FORTY)], "1" + "0" * 39 + "-" + "9" * 40), ([(FORTY, FORTY)], "9" * 40),
        ]:
            self.assertEqual(show_row(row), text)
            self.assertEqual(read_row(text), row)

    def test_read_back(self):
        for row in FAR_ROWS + FIFTY_ONE + [row_of([3 * k for k in range(1, 301)])]:
            text = show_row(row)
            self.assertIs(type(text), str)
            told = read_row(text)
            self.assertEqual(told, row)
            self.assertTrue(told_row(told))
            self.held(ROWS, text)

    def test_all_short_texts(self):
        for many in range(6):
            for signs in product("-,0129", repeat=many):
                self.held(ROWS, "".join(signs))

    def test_spoilt_texts(self):
        for text in ["-", "7", "3-20", "1-2,4,6-9", "10-11,13,15-200,9999", "98-99,101-102"]:
            self.spoilt(ROWS, text, "-,|0159 \nxa_+.")

    def test_where_it_goes_wrong(self):
        for text, at in [
            ("", 0), ("--", 1), ("-3", 1), ("-,3", 1), ("3-", 2), ("3,", 2), ("3-2", 3), ("3-2,", 3), ("3-20,", 5),
            ("05", 0), ("0", 0), ("3-0", 2), ("3-020", 2), ("3,05", 2), (" 3", 0), ("3 ", 1), ("3- 20", 2), ("3 -20", 1),
            ("3, 5", 2), ("4-4", 3), ("4-4,", 3), ("4-4,9", 3), ("3-4,5", 5), ("3-4,5,", 5), ("3-4,5-9", 5),
            ("5-9,2", 5), ("5-9,2-3", 5), ("7,7", 3), ("7,7,9", 3), ("7,8", 3), ("7,6-20", 3), ("3-9-12", 3),
            ("3|4", 1), ("3,4|", 3), ("3\n", 1), ("3,,5", 2), (",3", 0), ("a", 0), ("3a", 1), ("+3", 0), ("3.0", 1),
            ("1_0", 1), ("[(3, 20)]", 0), ("3-20-", 4), ("3-20,21", 7), ("3-20,22", None), ("3-20,2", 6), ("1-2,4-4", 7),
            ("10-9", 4), ("10-10", 5), ("10-1", 4), ("\u0663", 0), ("3-\u0664", 2), ("3\u00b2", 1), ("\uff13", 0),
            ("3-20,\u0663", 5), ("9" * 40 + "-" + "9" * 40, 81), ("9" * 40 + "-1" + "0" * 40, None),
        ]:
            if at is None:
                self.assertEqual(show_row(read_row(text)), text)
            else:
                with self.subTest(text):
                    self.assertEqual(self.at(ROWS, text), at)

    def test_no_texts(self):
        for at, thing in enumerate(NO_TEXTS):
            for reader in (ROWS, PAIRS, DEEDS):
                with self.subTest(at=at):
                    self.assertIsNone(self.at(reader, thing))

    def test_no_rows(self):
        for at, thing in enumerate(NO_ROWS):
            with self.subTest(at=at):
                self.refused(errors.NoRow, show_row, thing)

    def test_long_texts(self):
        row = [(HALF + 9 * k, HALF + 9 * k + 4) for k in range(49)]
        text = show_row(row)
        self.assertGreater(len(text), 3900)
        self.assertEqual(read_row(text), row)
        self.assertEqual(self.at(ROWS, text + "-"), len(text))
        self.assertEqual(self.at(ROWS, text + ","), len(text) + 1)
        self.assertEqual(self.at(ROWS, "1" * 4000 + "-" + "1" * 4000), 8001)
        self.assertEqual(self.at(ROWS, "1," * 2000), 3)

    def test_other_texts(self):
        for thing in ["one", "3", "a", ""]:
            self.assertEqual(self.at(PAIRS, thing), PAIRS.begun(thing))


class Pairs(TextCase):
    def test_by_hand(self):
        for pair, text in [
            (([], []), "-|-"), (([(1, 1)], []), "1|-"), (([], [(1, 2)]), "-|1-2"),
            (([(1, 2), (4, 4)], [(3, 20), (22, 22)]), "1-2,4|3-20,22"),
        ]:
            self.assertEqual(show_pair(pair), text)
            self.assertEqual(read_pair(text), pair)

    def test_all_small_pairs(self):
        texts = []
        for sets in pairs_within(4):
            pair = pair_from(sets)
            text = show_pair(pair)
            self.assertEqual(read_pair(text), pair)
            self.assertTrue(told_pair(read_pair(text)))
            texts.append(text)
        self.assertEqual(len(set(texts)), 4 ** 4)

    def test_read_back(self):
        for one in SOME_ROWS:
            for other in SOME_ROWS:
                self.held(PAIRS, show_pair((one, other)))
                self.assertEqual(read_pair(show_pair((one, other))), (one, other))
        for pair in LONG_PAIRS:
            self.assertEqual(read_pair(show_pair(pair)), pair)

    def test_all_short_texts(self):
        for many in range(6):
            for signs in product("-,|012", repeat=many):
                self.held(PAIRS, "".join(signs))

    def test_spoilt_texts(self):
        for text in ["-|-", "7|-", "3-20|1", "1-2,4|6-9,11", "98-99,101-102|10,12"]:
            self.spoilt(PAIRS, text, "-,|0159 \nx")

    def test_where_it_goes_wrong(self):
        for text, at in [
            ("", 0), ("-", 1), ("3-20", 4), ("3-20,", 5), ("|", 0), ("|-", 0), ("-|", 2), ("3|", 2), ("-||-", 2), ("-|-|", 3),
            ("-|-|-", 3), ("3|4|5", 3), ("3|4|", 3), ("3-2|-", 3), ("4-4|-", 3), ("-|4-4", 5), ("-|3-2", 5), ("3,4|-", 3),
            ("3|05", 2), ("3| 5", 2), ("3 |5", 1), ("-|--", 3), ("-3|-", 1), ("3|4\n", 3), ("3,|4", 2), ("3|,4", 2),
            ("3-|4", 2), ("3/4", 1), ("3|7,8", 5), ("3|7,8,", 5),
        ]:
            with self.subTest(text):
                self.assertEqual(self.at(PAIRS, text), at)

    def test_no_pairs(self):
        for at, thing in enumerate(NO_PAIRS):
            with self.subTest(at=at):
                self.refused(errors.NoPair, show_pair, thing)


class Deeds(TextCase):
    def test_by_hand(self):
        for deed, text in [
            (("turned", "one"), "turn 1\n"), (("turned", "other"), "turn 2\n"), (("gone", "one", 0), "go 1 0\n"),
            (("gone", "other", 120), "go 2 120\n"), (("by_hand", "one", 1), "hand 1 1\n"),
            (("by_hand", "other", FORTY), "hand 2 " + "9" * 40 + "\n"), (("set_to", ([], [])), "set -|-\n"),
            (("set_to", ([(1, 2), (4, 4)], [(3, 20)])), "set 1-2,4|3-20\n"),
        ]:
            self.assertEqual(show_deeds([deed]), text)
            told = read_deeds(text)
            self.assertEqual(told, [deed])
            self.assertEqual((type(told), type(told[0])), (list, tuple))
            self.assertEqual(read_deeds(text * 3), [deed] * 3)
            self.assertEqual(show_deeds([deed] * 3), text * 3)
        self.assertEqual(show_deeds([]), "")
        self.assertEqual(read_deeds(""), [])
        self.assertIs(type(read_deeds("")), list)
        self.assertTrue(told_pair(read_deeds("set 3|-\n")[0][1]))

    def test_several(self):
        text = "turn 2\ngo 1 7\nset 3-20|-\nhand 2 9\nturn 1\n"
        deeds = [("turned", "other"), ("gone", "one", 7), ("set_to", ([(3, 20)], [])), ("by_hand", "other", 9),
                 ("turned", "one")]
        self.assertEqual(read_deeds(text), deeds)
        self.assertEqual(show_deeds(deeds), text)

    def test_all_short_texts(self):
        for many in range(5):
            for signs in product("12 \n0", repeat=many):
                for begun in ("", "turn", "turn 1", "go 1", "go 2 ", "hand 1", "hand 2 "):
                    self.held(DEEDS, begun + "".join(signs))
        for many in range(4):
            for signs in product("-|1\n", repeat=many):
                self.held(DEEDS, "set " + "".join(signs))

    def test_spoilt_texts(self):
        for text in ["turn 1\n", "go 2 10\n", "hand 1 9\nturn 2\n", "set 1-2,4|-\n", "go 1 0\nset -|3\nhand 2 11\n"]:
            self.spoilt(DEEDS, text, "1203 \n-|tghsT\r")

    def test_where_it_goes_wrong(self):
        for text, at in [
            ("turn 1", 6), ("turn 1\n\n", 7), ("\n", 0), (" ", 0), ("turn 1 \n", 6), ("turn  1\n", 5), ("turn 3\n", 5),
            ("turn 0\n", 5), ("turn 12\n", 6), ("turn one\n", 5), ("turn\n", 4), ("tur", 3), ("turned 1\n", 4), ("Turn 1\n", 0),
            ("go 1\n", 4), ("go 1 \n", 5), ("go 1 0", 6), ("go 1 00\n", 6), ("go 1 05\n", 6), ("go 1 -1\n", 5), ("go 3 1\n", 3),
            ("go 1 5 \n", 6), ("go 1 5\r\n", 6), ("gone 1 5\n", 2), ("hand 1 0\n", 7), ("hand 1 05\n", 7), ("hand 1\n", 6),
            ("hand 2 5", 8), ("hand 0 5\n", 5), ("hand 1 5,7\n", 8), ("set \n", 4), ("set -\n", 5), ("set -|\n", 6),
            ("set -|-", 7), ("set -|-|\n", 7), ("set 4-4|-\n", 7), ("set -|4-4\n", 9), ("set 3,4|-\n", 7), ("set 05|-\n", 4),
            ("turn 1\nturn", 11), ("turn 1\nx", 7), ("turn 1\nturn 2", 13), ("turn 1\nturn 2\n\n", 14), ("turn 1turn 2\n", 6),
            ("back\n", 0), ("1", 0), ("-", 0), ("turn \u0661\n", 5), ("go 1 \u0661\n", 5), ("go 1 1\u0661\n", 6),
        ]:
            with self.subTest(text):
                self.assertEqual(self.at(DEEDS, text), at)
                self.assertEqual(DEEDS.begun(text), at)

    def test_lists_and_tuples(self):
        due = "turn 1\ngo 2 5\nhand 1 7\nset 1-2,5-9|3\n"
        for one in written_ways([(1, 2), (5, 9)]):
            for other in written_ways([(3, 3)]):
                for pair in [(one, other), [one, other]]:
                    deeds = [("turned", "one"), ["gone", "other", 5], ("by_hand", "one", 7), ["set_to", pair]]
                    self.assertEqual(show_deeds(deeds), due)
                    self.assertEqual(show_deeds(tuple(deeds)), due)
                    self.assertEqual(show_pair(pair), "1-2,5-9|3")
                self.assertEqual(show_row(one), "1-2,5-9")

    def test_what_a_table_tells(self):
        table = Table(([(1, 2)], []))
        for number in range(1, 61):
            table.turned("other")
            table.gone("one", 10 ** (number * 40))
            table.by_hand("other", FORTY - number ** 3)
            table.set_to(([(number, 2 * number)], [(HALF, HALF), (HALF + 2 * number, FORTY)]))
            table.set_to(([(number, 2 * number), (HALF, HALF + number)], []))
        deeds = table.deeds()
        self.assertEqual(len(deeds), 300)
        text = show_deeds(deeds)
        self.assertEqual(read_deeds(text), deeds)
        self.held(DEEDS, show_deeds(deeds[:9]))
        self.assertEqual(self.at(DEEDS, text[:-1]), len(text) - 1)
        other = Table(([(1, 2)], []))
        for name, *handed in read_deeds(text):
            getattr(other, name)(*handed)
        self.assertEqual(other, table)
        self.assertEqual(other.deeds(), deeds)


class Long(TextCase):
    """What the program tells may have more figures than Python writes out, or reads, at once."""

    def test_numbers_of_any_length(self):
        for many in (1, 58, 59, 60, 61, 62, 119, 120, 121, 179, 180, 181, 2500, 4299, 4300, 4301, 30000):
            for text, number in [("1" + "0" * many, 10 ** many), ("9" * many, 10 ** many - 1),
                                 ("1" + "0" * (many - 1) + "7", 10 ** many + 7)]:
                self.assertEqual(show_deeds([("gone", "one", number)]), "go 1 " + text + "\n")
                self.assertTrue(read_deeds("go 1 " + text + "\n") == [("gone", "one", number)])
                self.assertEqual(show_row([(number, number)]), text)
                self.assertTrue(read_row("1-" + text + "0") == [(1, 10 * number)])
                self.assertEqual(self.at(ROWS, text + "-" + text), 2 * len(text) + 1)
                self.assertEqual(self.at(ROWS, text + "-" + text + ","), 2 * len(text) + 1)

    def test_a_way_that_the_program_tells(self):
        row = row_of([HALF // 30 * k for k in range(1, 300)])
        way = way_of(row)
        self.assertGreater(way, 10 ** 10000)
        table = Table()
        table.gone("one", way)
        table.set_to((row, [(way, way + 1)]))
        text = show_deeds(table.deeds())
        self.assertGreater(len(text), 20000)
        self.assertTrue(read_deeds(text) == [("gone", "one", way), ("set_to", (row, [(way, way + 1)]))])


class Own(TextCase):
    def test_what_is_read_is_the_askers_own(self):
        for read, text in [(read_row, "1-2,4"), (read_pair, "3|3"), (read_pair, "-|-"), (read_deeds, "set 3|3\nset 3|3\n")]:
            told, again = read(text), read(text)
            rows = [told] if read is read_row else told if read is read_pair else [row for _, pair in told for row in pair]
            self.assertEqual(len({id(row) for row in rows}), len(rows))
            for row in rows:
                row.append("spoilt")
            self.assertNotEqual(told, again)
            self.assertEqual(read(text), again)

    def test_what_is_written_stays(self):
        row = [[1, 2], (4, 4)]
        deeds = [["set_to", [row, ()]], ("turned", "one")]
        self.assertEqual(show_row(row), "1-2,4")
        self.assertEqual(show_deeds(deeds), "set 1-2,4|-\nturn 1\n")
        self.assertEqual(deeds, [["set_to", [[[1, 2], (4, 4)], ()]], ("turned", "one")])


if __name__ == "__main__":
    unittest.main()
