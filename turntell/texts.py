"""Texts of rows, pairs and deeds: each has one writing, and is read back.

A reading function takes the text and how many of its signs are read; it tells what it read, and how many signs
are read then. Where it finds what no text has, it refuses with the number of signs ahead: these begin some text.
So it is of a number that is too small, too, as a number may go on.
"""

from turntell.errors import NoText
from turntell.rows import given_row
from turntell.turns import SIGN_BY_WHO, WHO_BY_SIGN, given_pair

FIGURES = "0123456789"
# Python refuses to write out, or to read, a very long number at once, so it is done part by part.
PART_LENGTH = 60
PART = 10 ** 60
WORDS = {"turned": "turn ", "gone": "go ", "by_hand": "hand ", "set_to": "set "}
DEED_BY_SIGN = {"t": "turned", "g": "gone", "h": "by_hand", "s": "set_to"}


def show_row(row):
    """A row, written."""
    stretches = given_row(row)
    return ",".join([shown_stretch(first, last) for first, last in stretches]) if stretches else "-"


def shown_stretch(first, last):
    """A stretch, written."""
    return shown_number(first) if first == last else shown_number(first) + "-" + shown_number(last)


def shown_number(number):
    """A number, written by figures without noughts ahead."""
    parts = []
    # Kin of int may be written otherwise.
    left = int(number)
    while left >= PART:
        left, part = divmod(left, PART)
        parts.append(str(part).zfill(PART_LENGTH))
    parts.append(str(left))
    return "".join(parts[::-1])


def show_pair(pair):
    """A pair, written."""
    one, other = given_pair(pair)
    return show_row(one) + "|" + show_row(other)


def show_deeds(deeds):
    """A list of deeds, written."""
    return "".join([shown_deed(deed) for deed in deeds])


def shown_deed(deed):
    """A deed, written."""
    word = WORDS[deed[0]]
    if deed[0] == "set_to":
        return word + show_pair(deed[1]) + "\n"
    who = SIGN_BY_WHO[deed[1]]
    if deed[0] == "turned":
        return word + who + "\n"
    return word + who + " " + shown_number(deed[2]) + "\n"


def read_row(text):
    """The row that a text tells."""
    check_text(text)
    row, at = row_from(text, 0)
    check_end(text, at)
    return row


def read_pair(text):
    """The pair that a text tells."""
    check_text(text)
    pair, at = pair_from(text, 0)
    check_end(text, at)
    return pair


def read_deeds(text):
    """The list of deeds that a text tells."""
    check_text(text)
    deeds = []
    at = 0
    while at < len(text):
        deed, at = deed_from(text, at)
        deeds.append(deed)
    return deeds


def check_text(text):
    """Refuse what is no text."""
    if not isinstance(text, str):
        raise NoText(None)


def check_end(text, at):
    """Refuse a text that goes on."""
    if at < len(text):
        raise NoText(at)


def sign_at(text, at):
    """The sign behind those that are read, a text without signs at the end."""
    return text[at:at + 1]


def word_from(text, start, word):
    """Read just the signs of a word."""
    at = start
    for sign in word:
        if sign_at(text, at) != sign:
            raise NoText(at)
        at += 1
    return at


def number_from(text, start, least):
    """Read a number, which is not below the least one that is due."""
    at = start
    while at < len(text) and text[at] in FIGURES:
        at += 1
    if at == start:
        raise NoText(start)
    if text[start] == "0":
        # A nought goes on to no other number, and where it is too small it begins none.
        if least > 0:
            raise NoText(start)
        return 0, start + 1
    number = number_of_figures(text[start:at])
    if number < least:
        raise NoText(at)
    return number, at


def number_of_figures(figures):
    """The number that figures tell."""
    ahead = len(figures) % PART_LENGTH
    number = int("0" + figures[:ahead])
    for at in range(ahead, len(figures), PART_LENGTH):
        number = number * PART + int(figures[at:at + PART_LENGTH])
    return number


def row_from(text, start):
    """Read a row."""
    if sign_at(text, start) == "-":
        return [], start + 1
    row = []
    free, at = 1, start
    while True:
        first, at = number_from(text, at, free)
        last = first
        if sign_at(text, at) == "-":
            last, at = number_from(text, at + 1, first + 1)
        row.append((first, last))
        if sign_at(text, at) != ",":
            return row, at
        free, at = last + 2, at + 1


def pair_from(text, start):
    """Read a pair."""
    one, at = row_from(text, start)
    at = word_from(text, at, "|")
    other, at = row_from(text, at)
    return (one, other), at


def deed_from(text, start):
    """Read a deed, and the line feed that ends it."""
    if text[start] not in DEED_BY_SIGN:
        raise NoText(start)
    name = DEED_BY_SIGN[text[start]]
    at = word_from(text, start, WORDS[name])
    if name == "set_to":
        pair, at = pair_from(text, at)
        return (name, pair), word_from(text, at, "\n")
    who, at = who_from(text, at)
    if name == "turned":
        return (name, who), word_from(text, at, "\n")
    at = word_from(text, at, " ")
    number, at = number_from(text, at, 0 if name == "gone" else 1)
    return (name, who, number), word_from(text, at, "\n")


def who_from(text, at):
    """Read who turns."""
    sign = sign_at(text, at)
    if sign not in WHO_BY_SIGN:
        raise NoText(at)
    return WHO_BY_SIGN[sign], at + 1
