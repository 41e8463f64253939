"""Turns: of a pair of rows each tells, by how many heads it shows, which coin of the other is turned.

The functions given_pair, given_pair_within, check_who, check_many, check_turns, after_turn and not_who serve the
other files, too; the last two are for what the ones ahead of them have let pass, and check nothing.
"""

from turntell.errors import NoNumber, NoPair, NoTurns, NoWho, NoWord
from turntell.rows import count_heads, flipped, given_row, is_row, is_whole, last_of

WHO_BY_SIGN = {"1": "one", "2": "other"}
SIGN_BY_WHO = {"one": "1", "other": "2"}
MOST_TURNS = 299


def given_pair(pair):
    """A copy of a pair that is handed in, as pairs are told; what is no pair is refused."""
    if not isinstance(pair, (list, tuple)) or len(pair) != 2:
        raise NoPair("a pair of rows is due")
    one, other = pair
    if not is_row(one) or not is_row(other):
        raise NoPair("both of a pair are rows")
    return given_row(one), given_row(other)


def given_pair_within(n, pair):
    """A copy of a pair that is handed in; one beyond n places is refused like what is no pair."""
    one, other = given_pair(pair)
    if max(last_of(one), last_of(other)) > n:
        raise NoPair("a pair within the places is due")
    return one, other


def check_who(who):
    """Refuse what tells neither of the two rows."""
    if not isinstance(who, str) or who not in ("one", "other"):
        raise NoWho("one or other is due")


def check_word(word):
    """Refuse what is no word."""
    if not isinstance(word, str) or not all([sign in WHO_BY_SIGN for sign in word]):
        raise NoWord("a text of the signs 1 and 2 is due")


def check_many(many):
    """Refuse what is no number of turns that are told one by one."""
    if not is_whole(many, 0) or many > MOST_TURNS:
        raise NoNumber("a number of turns from 0 to 299 is due")


def check_turns(turns):
    """Refuse what is no number of turns, however many."""
    if not is_whole(turns, 0):
        raise NoTurns("a whole number from 0 on is due")


def not_who(who):
    """Who turns behind a turn of the one told."""
    return "other" if who == "one" else "one"


def turn(pair, who):
    """The pair behind a turn."""
    rows = given_pair(pair)
    check_who(who)
    return after_turn(rows, who)


def after_turn(pair, who):
    """The pair behind a turn, of new rows both, so that no two pairs told share a list."""
    one, other = pair
    if who == "one":
        return flipped(one, count_heads(other)), list(other)
    return list(one), flipped(other, count_heads(one))


def rests(pair):
    """Those whose turn rests, as the row that tells them shows no head."""
    one, other = given_pair(pair)
    return [who for who, teller in [("one", other), ("other", one)] if not teller]


def done(pair, word):
    """The pair behind a word."""
    now = given_pair(pair)
    check_word(word)
    for sign in word:
        now = after_turn(now, WHO_BY_SIGN[sign])
    return now


def least_word(word):
    """The shortest word that does to every pair what a word does."""
    check_word(word)
    left = []
    for sign in word:
        if left and left[-1] == sign:
            left.pop()
        else:
            left.append(sign)
    return "".join(left)


def by_turns(pair, *, first="other", many=10):
    """The list of pairs ahead of and behind each of so many turns, by turns."""
    now = given_pair(pair)
    check_who(first)
    check_many(many)
    pairs = [now]
    who = first
    for _ in range(many):
        now = after_turn(now, who)
        pairs.append(now)
        who = not_who(who)
    return pairs
