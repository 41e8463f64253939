"""Layers: how a pair, and the row of its line, tell one another without a turn being done.

Take the last coin off each row of a pair within n places. What is left is a pair within n - 1 places, but the
two coins are still counted: a turn of the one is by the heads left of the other one and r more, a turn of the
other one by those left of the one and s more, where r (of the other one) and s (of the one) are 1 if the coin
taken shows heads, else 0. So what is left is of the kind (r, s), as point 23 of the document tells kinds; the
whole pair is of the kind (0, 0), or of another one where lines of that kind are asked for. Turns that reach no
coin taken keep what is left on one line of its kind; at the ends of that line a coin taken is turned, and what
is left goes on along a line of another kind.

It is so in each kind, if of the one the last coin is taken where r is 0, the first one where r is 1, and of the
other one likewise by s: so the counts and the places that are left stay in step. Such a layer, two coins, leads
from a kind to the next one, and tells the last coin of the line's row:
- The kind stays: the whole line is one of that kind. The row shows heads in (0, 1) and (1, 0), else tails.
- Else the row shows the contrary, and the line has three parts: the near one; the middle one, of the opposite
  kind (both numbers unlike); and the far one, of the kind opposite to that of the near one.
A line of the kind (0, 0) or (1, 1) has as many pairs as the first number of its row's ladder tells, of another
kind as many as the second one. From which end a line is counted, point 23 tells.

Layers are told by tuples (kind, next kind, how many): layers that stay, or that go to and fro between opposite
kinds, many at once, so that nothing counts up to a place; each other one alone.
"""

from turntell.ladders import check_stretches, climbed, row_of_strips, strips_of
from turntell.rows import last_of

OUTSIDE = (0, 0)
NEAR = {(0, 0): (0, 1), (1, 1): (1, 0), (0, 1): (0, 0), (1, 0): (0, 0)}


def opposite(kind):
    """The kind of which both numbers are unlike."""
    r, s = kind
    return 1 - r, 1 - s


def even_kind(kind):
    """Whether it is the first number of a ladder that tells how many pairs a line of the kind has."""
    r, s = kind
    return r == s


def coin_told(kind, following):
    """The coin of the line's row that a layer tells, 1 for heads."""
    return int(even_kind(kind) != (kind == following))


def kind_behind(layer):
    """The kind behind layers: to and fro as often leads back."""
    kind, following, many = layer
    return following if many & 1 else kind


def one_way(layer):
    """Layers to and fro parted into those to and those fro, which take coins from contrary ends."""
    kind, following, many = layer
    if following != opposite(kind):
        return [layer]
    ways = [(kind, following, (many + 1) // 2), (following, kind, many // 2)]
    return [way for way in ways if way[2] > 0]


def end_strip(strips, end):
    """The strip at an end of what is left of a row: the last one of end 0, the first one of end 1."""
    return strips[end - 1]


def take_off(strips, end, many):
    """Take so many coins off the strip at an end."""
    coin, here = end_strip(strips, end)
    if many < here:
        strips[end - 1] = (coin, here - many)
    else:
        strips.pop(end - 1)


def next_layer(kind, ones, others):
    """The next layers of what is left: as many as are told by the strips at the ends."""
    r, s = kind
    coin, many = end_strip(ones, r)
    beside, room = end_strip(others, s)
    following = (beside, coin)
    if following == kind:
        return kind, following, min(many, room)
    if following == opposite(kind):
        # Two coins of a row are unlike where the next layer leads back: they are of two strips, at either end.
        coin, many_back = end_strip(ones, 1 - r)
        beside, room_back = end_strip(others, 1 - s)
        if (beside, coin) == kind:
            return kind, following, 2 * min(many, room, many_back, room_back)
    return kind, following, 1


def layers_of(pair, bounded):
    """The layers of a pair among turns that no number of places bounds."""
    return layers_within(max([last_of(row) for row in pair]), OUTSIDE, pair, bounded)


def layers_within(n, outer, pair, bounded):
    """The layers of a pair of a kind within n places; if bounded, a row of too many stretches is refused.

    It is refused on the way: four kinds in a ring, which tell heads and tails by turns, are told layer by layer.
    """
    one, other = pair
    ones, others = strips_of(one, n), strips_of(other, n)
    kind = outer
    layers = []
    stretches = coin = 0
    while ones:
        layer = next_layer(kind, ones, others)
        for (r, s), _, many in one_way(layer):
            take_off(ones, r, many)
            take_off(others, s, many)
        layers.append(layer)
        kind = kind_behind(layer)
        ahead, coin = coin, coin_told(layer[0], layer[1])
        if coin > ahead:
            stretches += 1
        if bounded:
            check_stretches(stretches)
    return layers


def part_of(layer, rungs):
    """Where the part to which layers lead begins, and whether it is gone through from its far end.

    The ladder is that of the row's places that the layers leave.
    """
    kind, following, many = layer
    first, second = rungs
    if following == kind:
        return 0, False
    if following == opposite(kind):
        return (many * second, bool(many & 1)) if even_kind(kind) else (many * first, False)
    return (0 if following == NEAR[kind] else first + second), (1, 0) in (kind, following)


def pairs_on(kind, rungs):
    """How many pairs a line of a kind has, by its row's ladder."""
    first, second = rungs
    return first if even_kind(kind) else second


def line_told(layers):
    """The row of a pair's line, and behind how many turns the pair is come by, from the layer taken last on."""
    rungs = (1, 1)
    far = 0
    strips = []
    for layer in reversed(layers):
        kind, following, many = layer
        begins, contrary = part_of(layer, rungs)
        if contrary:
            far = pairs_on(following, rungs) - 1 - far
        far += begins
        coin = coin_told(kind, following)
        strips.append((coin, many))
        rungs = climbed(rungs, coin, many)
    return row_of_strips(strips), far


def pair_on(stretches, turns):
    """The pair behind so many turns on the line of a row, which no number of places bounds."""
    return pair_on_within(last_of(stretches), OUTSIDE, stretches, turns)


def pair_on_within(n, outer, stretches, turns):
    """The pair behind so many turns, from its first end on, on the line of a kind of a row within n places."""
    strips = strips_of(stretches, n)
    ladders = [(1, 1)]
    for coin, many in strips:
        ladders.append(climbed(ladders[-1], coin, many))
    kind, far = outer, turns
    layers = []
    for at in reversed(range(len(strips))):
        found, far = layers_at(kind, far, strips[at], ladders[at])
        layers += found
        kind = kind_behind(layers[-1])
    return pair_of(layers)


def layers_at(kind, far, strip, rungs):
    """The layers that tell a strip of the line's row, for a pair so far on; and how far on it is in the part left.

    The ladder is that of the row's places below the strip.
    """
    coin, many = strip
    if coin == coin_told(kind, kind):
        return [(kind, kind, many)], far
    inner = pairs_on(kind, rungs)
    outer = sum(rungs) - inner
    # Each middle part leaves out a near and a far one, which stay as long: so many are left out on both sides.
    pairs = inner + 2 * many * outer
    middle = min(far // outer, (pairs - 1 - far) // outer, many)
    layers = [(kind, opposite(kind), middle)]
    far = far_in(layers[0], far, climbed(rungs, coin, many - middle))
    if middle == many:
        return layers, far
    left = many - middle - 1
    kind = kind_behind(layers[0])
    near = NEAR[kind]
    aside = near if far < outer else opposite(near)
    layers += [(kind, aside, 1), (aside, aside, left)]
    return layers, far_in(layers[1], far, climbed(rungs, coin, left))


def far_in(layer, far, rungs):
    """How far on a pair is in the part to which layers lead, the other way about than line_told goes."""
    begins, contrary = part_of(layer, rungs)
    if contrary:
        return pairs_on(layer[1], rungs) - 1 - (far - begins)
    return far - begins


def pair_of(layers):
    """The pair of layers: its rows are put together from their ends."""
    ones, others = ([], []), ([], [])
    for layer in layers:
        for (r, s), (beside, coin), many in one_way(layer):
            ones[r].append((coin, many))
            others[s].append((beside, many))
    return row_of_ends(ones), row_of_ends(others)


def row_of_ends(ends):
    """The row of strips laid from both ends, those of the last places downwards and those of the first ones up."""
    lasts, firsts = ends
    return row_of_strips(firsts + lasts[::-1])
