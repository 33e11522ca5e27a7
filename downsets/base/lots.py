"""Lots of an order: closed lots, flat lots and chains."""

from downsets.base.checks import all_bits, bits_of, has_bit, is_lot_of, is_within, lot_of, need_lot, spots
from downsets.base.orders import need_order, step_rows
from downsets.errors import InvalidLot, TooMany

MAX_CLOSED = 4000


def is_lot(order, value):
    """Tell whether a value is a lot of the order."""
    need_order(order)
    return is_lot_of(order.places, value)


def is_closed(order, value):
    """Tell whether a value is a closed lot."""
    return is_lot(order, value) and is_closed_bits(order, bits_of(order.places, value))


def is_flat(order, value):
    """Tell whether a value is a flat lot."""
    if not is_lot(order, value):
        return False
    bits = bits_of(order.places, value)
    return bare_bits(order.behind_bits, bits) == bits


def is_chain(order, value):
    """Tell whether a value is a chain."""
    if not is_lot(order, value):
        return False
    bits = bits_of(order.places, value)
    return is_within(bits, fitting_bits(order, bits))


def closed_lots(order):
    """Return all closed lots, ascending."""
    need_order(order)
    return tuple(sorted([lot_of(order.places, bits) for bits in closed_bits(order)]))


def flat_lots(order):
    """Return all flat lots, ascending."""
    need_order(order)
    tops_of_closed = [bare_bits(order.behind_bits, bits) for bits in closed_bits(order)]
    return tuple(sorted([lot_of(order.places, bits) for bits in tops_of_closed]))


def closed_number(order):
    """Return how many closed lots there are."""
    need_order(order)
    return len(closed_bits(order))


def closed_by_size(order):
    """Return how many closed lots have no place, one, two, up to all places."""
    need_order(order)
    sizes = [len(spots(bits)) for bits in closed_bits(order)]
    return tuple([sizes.count(size) for size in range(len(order) + 1)])


def tops(order, lot):
    """Return the lot of the places of a lot that are ahead of no other one of it."""
    bits = checked_bits(order, lot)
    return lot_of(order.places, bare_bits(order.behind_bits, bits))


def firsts(order, lot):
    """Return the lot of the places of a lot that are behind no other one of it."""
    bits = checked_bits(order, lot)
    return lot_of(order.places, bare_bits(order.ahead_bits, bits))


def rest(order, lot):
    """Return the lot of the places that a lot does not have."""
    bits = checked_bits(order, lot)
    return lot_of(order.places, all_bits(len(order)) & ~bits)


def union(order, lot, other):
    """Return the lot of the places in one of two lots."""
    bits = checked_bits(order, lot)
    return lot_of(order.places, bits | checked_bits(order, other))


def common(order, lot, other):
    """Return the lot of the places in both of two lots."""
    bits = checked_bits(order, lot)
    return lot_of(order.places, bits & checked_bits(order, other))


def next_places(order, lot):
    """Return the lot of the places that, put to a closed lot, keep it closed."""
    bits = checked_closed_bits(order, lot)
    return tuple([order.places[k] for k in next_spots(order, bits)])


def last_places(order, lot):
    """Return the lot of the places that, taken out of a closed lot, keep it closed."""
    bits = checked_closed_bits(order, lot)
    return lot_of(order.places, bare_bits(order.behind_bits, bits))


def chains_up(order):
    """Generate all chains that no other chain has as a part, ascending."""
    need_order(order)
    line = stepping_line(order)
    bits = filled_chain(order, line, 0)
    while bits:
        yield lot_of(order.places, bits)
        bits = chain_behind(order, line, bits)


def checked_bits(order, lot):
    """Return the bits of a lot, or raise the errors of an order and a lot."""
    need_order(order)
    need_lot(order.places, lot)
    return bits_of(order.places, lot)


def checked_closed_bits(order, lot):
    """Return the bits of a closed lot, or raise the errors of both parameters."""
    bits = checked_bits(order, lot)
    if not is_closed_bits(order, bits):
        raise InvalidLot("the lot is not closed")
    return bits


def is_closed_bits(order, bits):
    """Tell whether bits are those of a closed lot."""
    return all([is_within(order.ahead_bits[k], bits) for k in spots(bits)])


def bare_bits(rows, bits):
    """Return the bits of the places of a lot whose rows have no place of it."""
    return sum([1 << k for k in spots(bits) if rows[k] & bits == 0])


def next_spots(order, bits):
    """Return the indices of the places that can come next behind a closed lot."""
    rows = order.ahead_bits
    return [k for k in range(len(rows)) if not has_bit(bits, k) and is_within(rows[k], bits)]


def lined_spots(order):
    """Return the indices of all places such that each follows all ahead of it."""
    ranked = sorted([(len(spots(order.ahead_bits[k])), k) for k in range(len(order))])
    return [k for _, k in ranked]


def closed_bits_within(order, limit):
    """Return the bits of all closed lots, ascending, or None beyond a limit."""
    found = [0]
    for k in lined_spots(order):
        # The closed lots of a part of a line-up are closed in the whole order,
        # so that there are never fewer of them later.
        found = found + [bits | (1 << k) for bits in found if is_within(order.ahead_bits[k], bits)]
        if len(found) > limit:
            return None
    return sorted(found)


def closed_bits(order):
    """Return the bits of all closed lots, ascending, if they are not too many."""
    found = closed_bits_within(order, MAX_CLOSED)
    if found is None:
        raise TooMany(MAX_CLOSED)
    return found


def beside_bits(order, at):
    """Return the bits of the places beside a place."""
    return all_bits(len(order)) & ~(order.ahead_bits[at] | order.behind_bits[at] | (1 << at))


def beside_rows(order):
    """Return for each place the bits of the places beside it."""
    return [beside_bits(order, at) for at in range(len(order))]


def fitting_bits(order, bits):
    """Return the bits of the places that are beside no place of a lot."""
    fitting = all_bits(len(order))
    for k in spots(bits):
        fitting = fitting & (order.ahead_bits[k] | order.behind_bits[k] | (1 << k))
    return fitting


def stepping_line(order):
    """Return (index, bits of the places a step below) as the places line up."""
    rows = step_rows(order.ahead_bits)
    return [(k, rows[k]) for k in lined_spots(order)]


def has_full_chain(order, line, bits, least):
    """Tell whether a full chain has just these places among those below an index.

    If all places of a way by steps from a first place to a top are beside no
    place of the bits, the way has all of these: else it could be filled up.
    """
    allowed = fitting_bits(order, bits) & (bits | beyond_index(order, least))
    reached = 0
    for k, down in line:
        if has_bit(allowed, k) and (down == 0 or down & reached != 0):
            reached = reached | (1 << k)
            if order.behind_bits[k] == 0:
                return True
    return False


def beyond_index(order, least):
    """Return the bits of all places from an index on."""
    return all_bits(len(order)) & ~all_bits(least)


def next_in_chain(order, line, bits, least):
    """Return the bits with the least further place of a full chain, or None."""
    for k in spots(fitting_bits(order, bits) & beyond_index(order, least)):
        longer = bits | (1 << k)
        if has_full_chain(order, line, longer, k + 1):
            return longer
    return None


def filled_chain(order, line, bits):
    """Return the bits of the first full chain that has these places at first."""
    longer = next_in_chain(order, line, bits, bits.bit_length())
    while longer is not None:
        bits = longer
        longer = next_in_chain(order, line, bits, bits.bit_length())
    return bits


def chain_behind(order, line, bits):
    """Return the bits of the full chain behind one, or 0 behind the last one."""
    while bits:
        last = bits.bit_length() - 1
        bits = bits ^ (1 << last)
        longer = next_in_chain(order, line, bits, last + 1)
        if longer is not None:
            return filled_chain(order, line, longer)
    return 0
