"""Line-ups of an order, counted along its closed lots."""

from downsets.base.checks import all_bits, has_bit, is_place_of, is_within, need_place, spots
from downsets.base.lots import bare_bits, checked_closed_bits, closed_bits, next_spots
from downsets.base.orders import need_order
from downsets.base.words import is_whole
from downsets.errors import InvalidLineup, InvalidNumber


def is_lineup(order, value):
    """Tell whether a value is a line-up of the order."""
    need_order(order)
    if not isinstance(value, tuple) or len(value) != len(order):
        return False
    bits = 0
    for place in value:
        if not is_place_of(order.places, place):
            return False
        at = order.places.index(place)
        if has_bit(bits, at) or not is_within(order.ahead_bits[at], bits):
            return False
        bits = bits | (1 << at)
    return True


def lineup_number(order):
    """Return the number of line-ups."""
    need_order(order)
    return ways_down(order, closed_bits(order))[0]


def lineups(order):
    """Generate all line-ups, ascending."""
    need_order(order)
    lineup = filled_lineup(order, [])
    while lineup is not None:
        yield lineup
        lineup = next_lineup(order, lineup)


def lineup_at(order, index):
    """Return the line-up with an index among all, ascending."""
    need_order(order)
    if not is_whole(index) or index < 0:
        raise InvalidNumber(index)
    ways = ways_down(order, closed_bits(order))
    if index >= ways[0]:
        raise InvalidNumber(index)
    bits = 0
    left = index
    found = []
    while len(found) < len(order):
        for k in next_spots(order, bits):
            many = ways[bits | (1 << k)]
            if left < many:
                found.append(order.places[k])
                bits = bits | (1 << k)
                break
            left = left - many
    return tuple(found)


def index_of(order, lineup):
    """Return the index of a line-up among all, ascending."""
    need_lineup(order, lineup)
    ways = ways_down(order, closed_bits(order))
    bits = 0
    index = 0
    for place in lineup:
        at = order.places.index(place)
        index = index + sum([ways[bits | (1 << k)] for k in next_spots(order, bits) if k < at])
        bits = bits | (1 << at)
    return index


def next_lineup(order, lineup):
    """Return the line-up behind one, or None behind the last one."""
    need_lineup(order, lineup)
    for many in reversed(range(len(lineup))):
        row = list(lineup[:many])
        later = [place for place in coming(order, row) if place > lineup[many]]
        if later:
            return filled_lineup(order, row + later[:1])
    return None


def ways_through(order, lot):
    """Return the numbers of line-ups within a closed lot, and within its rest."""
    bits = checked_closed_bits(order, lot)
    closed = closed_bits(order)
    return (ways_up(order, closed)[bits], ways_down(order, closed)[bits])


def position_counts(order, place):
    """Return in how many line-ups a place has the first position, the second .."""
    need_order(order)
    need_place(order.places, place)
    counts = [0] * len(order)
    for bits, many in lineups_by_lot(order)[order.places.index(place)]:
        counts[len(spots(bits))] += many
    return tuple(counts)


def need_lineup(order, lineup):
    """Refuse what is no line-up of an order."""
    if not is_lineup(order, lineup):
        raise InvalidLineup("no line-up of the order")


def coming(order, row):
    """Return the places that can come next behind a row, ascending."""
    bits = sum([1 << order.places.index(place) for place in row])
    return [order.places[k] for k in next_spots(order, bits)]


def filled_lineup(order, row):
    """Return the first line-up that begins with a row."""
    while len(row) < len(order):
        row = row + coming(order, row)[:1]
    return tuple(row)


def ways_up(order, closed):
    """Return for each closed lot, by its bits, how many ways lead to it."""
    ways = {0: 1}
    for bits in closed[1:]:
        last = spots(bare_bits(order.behind_bits, bits))
        ways[bits] = sum([ways[bits ^ (1 << k)] for k in last])
    return ways


def ways_down(order, closed):
    """Return for each closed lot, by its bits, how many ways lead on to all places."""
    ways = {all_bits(len(order)): 1}
    for bits in sorted(closed[:-1], reverse=True):
        ways[bits] = sum([ways[bits | (1 << k)] for k in next_spots(order, bits)])
    return ways


def lineups_by_lot(order):
    """Return for each place pairs (bits, many) that count all line-ups.

    In so many line-ups just the places of these bits stand ahead of the place.
    """
    closed = closed_bits(order)
    up = ways_up(order, closed)
    down = ways_down(order, closed)
    rows = [[] for _ in range(len(order))]
    for bits in closed:
        for k in next_spots(order, bits):
            rows[k].append((bits, up[bits] * down[bits | (1 << k)]))
    return rows
