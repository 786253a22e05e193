"""The program's one call: share a length out among things that stand in a row.

Fractions are kept as whole numbers over one common bottom, so that nothing is
rounded but the edges.
"""

NUMBERS_A_THING = 5
MOST_THINGS = 64
GREATEST_LENGTH = 4194304
GREATEST_MOST = 65535
GREATEST_WEIGHT = 255

REFUSAL_FORM = 0
SHARED_FORM = 1
REFUSAL = -22
# What's left may be below 0, but what is answered must not be.
ADDED_TO_LEFT = 1073741824


def share(length, things):
    """Give back 0 and -22; or 1, what's left and 1073741824, how many things, then the size of each."""
    row = row_of(things)
    if not may_be_shared(length, row):
        return [REFUSAL_FORM, REFUSAL]
    sizes = sizes_between(edges_of(length, row))
    left = length - sum(sizes)
    return [SHARED_FORM, left + ADDED_TO_LEFT, len(sizes)] + sizes


def row_of(things):
    """The things as tuples of least, wish, most, grow and give."""
    return [tuple(things[start:start + NUMBERS_A_THING]) for start in range(0, len(things), NUMBERS_A_THING)]


def may_be_shared(length, row):
    if len(row) > MOST_THINGS or length > GREATEST_LENGTH:
        return False
    for least, wish, most, grow, give in row:
        if least > wish or wish > most or most > GREATEST_MOST:
            return False
        if grow > GREATEST_WEIGHT or give > GREATEST_WEIGHT:
            return False
    return True


def edges_of(length, row):
    """The edges of the row, from the first one, 0, to the one behind the last thing."""
    wishes = [wish for least, wish, most, grow, give in row]
    need = length - sum(wishes)
    if need >= 0:
        movers = [(most - wish, grow) for least, wish, most, grow, give in row]
        return edges_at(wishes, movers, 1, common_step(need, movers))
    movers = [(wish - least, give) for least, wish, most, grow, give in row]
    return edges_at(wishes, movers, -1, common_step(-need, movers))


def common_step(need, movers):
    """The t that all movers share, as its top and its bottom.

    A mover is a room, how far a thing may go from its wish, and a weight.
    """
    going = [mover for mover in movers if mover[1] > 0]
    if rooms_of(going) <= need:
        # No room is greater than this, so even at a weight of 1 each is full.
        return (GREATEST_MOST, 1)
    rest = need
    still = not_full(going, rest)
    # What full ones can't take goes to the others, so t only rises and full ones stay full;
    # and some always go on, as all rooms together are more than what is needed.
    while len(still) < len(going):
        rest = rest - rooms_of(going) + rooms_of(still)
        going = still
        still = not_full(going, rest)
    return (rest, weights_of(going))


def rooms_of(movers):
    return sum([room for room, weight in movers])


def weights_of(movers):
    return sum([weight for room, weight in movers])


def not_full(movers, rest):
    """Those that have room beyond their share of the rest."""
    weights = weights_of(movers)
    return [(room, weight) for room, weight in movers if room * weights > rest * weight]


def edges_at(wishes, movers, sign, step):
    """What the first fair lengths are together, one more of them each time, rounded down."""
    top = step[0]
    bottom = step[1]
    reach = 0
    edges = [0]
    for wish, mover in zip(wishes, movers):
        moved = min(top * mover[1], bottom * mover[0])
        reach = reach + wish * bottom + sign * moved
        edges.append(reach // bottom)
    return edges


def sizes_between(edges):
    return [behind - before for before, behind in zip(edges, edges[1:])]
