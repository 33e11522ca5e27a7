"""How often one place stands ahead of another, and swaps of line-ups."""

from downsets.base.checks import bits_of, has_bit, need_lot, need_place, need_two, spots
from downsets.base.orders import need_order
from downsets.base.words import fraction, is_whole
from downsets.errors import InvalidNumber, InvalidOperation
from downsets.ways.lineups import lineups_by_lot, need_lineup


def share(order, one, other):
    """Return the share of the line-ups in which one place stands ahead of another one."""
    need_order(order)
    need_two(order.places, one, other)
    at = order.places.index(one)
    rows = lineups_by_lot(order)[order.places.index(other)]
    return fraction(sum([many for bits, many in rows if has_bit(bits, at)]), total_of(rows))


def shares(order):
    """Return the dict from all pairs of two different places to their shares."""
    need_order(order)
    counts, total = counts_ahead(order)
    places = order.places
    spans = range(len(places))
    pairs = [(k, at) for k in spans for at in spans if k != at]
    return {(places[k], places[at]): fraction(counts[k][at], total) for k, at in pairs}


def share_ahead(order, place, lot):
    """Return the share of the line-ups in which a place stands ahead of a lot."""
    need_order(order)
    need_place(order.places, place)
    need_lot(order.places, lot)
    if place in lot:
        raise InvalidOperation("the place is in the lot")
    late = bits_of(order.places, lot)
    rows = lineups_by_lot(order)[order.places.index(place)]
    return fraction(sum([many for bits, many in rows if bits & late == 0]), total_of(rows))


def mean_position(order, place):
    """Return the mean of the positions of a place in all line-ups."""
    need_order(order)
    need_place(order.places, place)
    rows = lineups_by_lot(order)[order.places.index(place)]
    return fraction(sum([(len(spots(bits)) + 1) * many for bits, many in rows]), total_of(rows))


def fair_pair(order):
    """Return a pair of places beside one another with a fair share, or None."""
    need_order(order)
    distances = distances_from_half(order)
    return sorted(distances)[0][1] if distances else None


def is_fair_pair(order, value):
    """Tell whether a value is a pair of places beside one another with a fair share."""
    need_order(order)
    distances = distances_from_half(order)
    return (sorted(distances)[0][0], value) in distances if distances else False


def unlike_pairs(order, lineup, second):
    """Return the pairs of places that stand in different orders in two line-ups."""
    need_lineup(order, lineup)
    need_lineup(order, second)
    return pairs_of_unlike(lineup, second)


def swapped(order, lineup, index):
    """Return the line-up after the swap at an index."""
    need_lineup(order, lineup)
    if not is_swap_index(lineup, index):
        raise InvalidNumber(index)
    if not order.is_beside(lineup[index], lineup[index + 1]):
        raise InvalidOperation("the two places are not beside one another")
    return exchanged(lineup, index)


def swaps(order, lineup, second):
    """Return indices of swaps, as few as can be, from a line-up to the second one."""
    need_lineup(order, lineup)
    need_lineup(order, second)
    ranks = [second.index(place) for place in lineup]
    found = []
    for end in range(len(ranks)):
        # All before the end are in order; the next one goes down to its spot.
        for k in reversed(range(end)):
            if ranks[k] > ranks[k + 1]:
                ranks[k], ranks[k + 1] = ranks[k + 1], ranks[k]
                found.append(k)
    return tuple(found)


def is_swaps(order, lineup, second, value):
    """Tell whether a value is a tuple of as few swaps from a line-up to the second one."""
    need_lineup(order, lineup)
    need_lineup(order, second)
    if not isinstance(value, tuple) or len(value) != len(pairs_of_unlike(lineup, second)):
        return False
    row = lineup
    for index in value:
        if not is_swap_index(row, index):
            return False
        row = exchanged(row, index)
    # So few exchanges only lead to the second one if each is one of unlike
    # places, and these are beside one another.
    return row == second


def total_of(rows):
    """Return the number of all line-ups, which the rows of one place count."""
    return sum([many for _, many in rows])


def counts_ahead(order):
    """Return the numbers of line-ups by indices of (one, other), and of all."""
    rows = lineups_by_lot(order)
    counts = [[0] * len(order) for _ in range(len(order))]
    for at in range(len(order)):
        for bits, many in rows[at]:
            for k in spots(bits):
                counts[k][at] += many
    return counts, total_of(rows[0])


def distances_from_half(order):
    """Return pairs (distance, pair) for all pairs of places beside one another."""
    counts, total = counts_ahead(order)
    places = order.places
    spans = range(len(places))
    found = []
    for k in spans:
        for at in spans:
            if k != at and order.is_beside(places[k], places[at]):
                found.append((abs(2 * counts[k][at] - total), (places[k], places[at])))
    return found


def pairs_of_unlike(lineup, second):
    """Return the pairs that two rows of the same places have in different orders."""
    places = sorted(lineup)
    first_at = {lineup[k]: k for k in range(len(lineup))}
    second_at = {second[k]: k for k in range(len(second))}
    return tuple([
        (one, other) for one in places for other in places
        if one < other and (first_at[one] < first_at[other]) != (second_at[one] < second_at[other])
    ])


def is_swap_index(lineup, value):
    """Tell whether a value is an index with a next one in a line-up."""
    return is_whole(value) and 0 <= value <= len(lineup) - 2


def exchanged(lineup, index):
    """Return the row in which two neighbours are exchanged."""
    return lineup[:index] + (lineup[index + 1], lineup[index]) + lineup[index + 2:]
