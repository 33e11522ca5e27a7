"""Width and height: greatest flat lots, longest chains, and what bars greater ones."""

from downsets.base.checks import all_bits, are_parts, lot_of, need_lot, need_place, spots
from downsets.base.lots import bare_bits, beyond_index, firsts, fitting_bits, flat_lots, is_chain, is_flat
from downsets.base.lots import tops, union
from downsets.base.orders import need_order
from downsets.errors import InvalidOperation
from downsets.wide.flows import flat_and_chains


def width(order):
    """Return the greatest number of places of a flat lot."""
    return len(width_paper(order)[0])


def height(order):
    """Return the greatest number of places of a chain."""
    return len(levels(order))


def width_paper(order):
    """Return a greatest flat lot, and as many chains that have all places."""
    need_order(order)
    flat, chains = flat_and_chains(order, [1] * len(order))
    lots = [lot_of(order.places, bits) for bits in chains]
    return (lot_of(order.places, flat), tuple(sorted(lots)))


def height_paper(order):
    """Return a longest chain, and as many flat lots that have all places."""
    flats = tuple(sorted(levels(order)))
    bits = longest_from(order, 0, len(flats))
    return (lot_of(order.places, bits), flats)


def is_width_paper(order, value):
    """Tell whether a value is a width paper of the order."""
    need_order(order)
    if not has_lot_and_parts(order, value):
        return False
    lot, chains = value
    return is_flat(order, lot) and all([is_chain(order, chain) for chain in chains])


def is_height_paper(order, value):
    """Tell whether a value is a height paper of the order."""
    need_order(order)
    if not has_lot_and_parts(order, value):
        return False
    lot, flats = value
    return is_chain(order, lot) and all([is_flat(order, flat) for flat in flats])


def levels(order):
    """Return the lots of the places whose longest chains from below are equally long."""
    need_order(order)
    return tuple([lot_of(order.places, bits) for bits in level_bits(order, all_bits(len(order)))])


def level(order, place):
    """Return how many places the longest chains have whose only top is a place."""
    need_order(order)
    need_place(order.places, place)
    return level_numbers(order)[place]


def longest_chains(order):
    """Generate all chains with the greatest number of places, ascending."""
    many = height(order)
    bits = longest_from(order, 0, many)
    while bits:
        yield lot_of(order.places, bits)
        bits = longest_behind(order, bits, many)


def greatest_flats(order):
    """Return all flat lots with the greatest number of places, ascending."""
    lots = flat_lots(order)
    many = max([len(lot) for lot in lots])
    return tuple([lot for lot in lots if len(lot) == many])


def lowest_flat(order):
    """Return the greatest flat lot that is the lower one of itself and each other."""
    return firsts(order, all_together(greatest_flats(order)))


def highest_flat(order):
    """Return the greatest flat lot that is the upper one of itself and each other."""
    return tops(order, all_together(greatest_flats(order)))


def lower_flat(order, lot, second):
    """Return the greatest flat lot of the firsts of two of them together."""
    need_two_greatest(order, lot, second)
    return firsts(order, union(order, lot, second))


def upper_flat(order, lot, second):
    """Return the greatest flat lot of the tops of two of them together."""
    need_two_greatest(order, lot, second)
    return tops(order, union(order, lot, second))


def need_two_greatest(order, lot, second):
    """Refuse an order, and what are no two greatest flat lots of it."""
    need_order(order)
    need_lot(order.places, lot)
    need_lot(order.places, second)
    many = width(order)
    if not all([is_flat(order, flat) and len(flat) == many for flat in (lot, second)]):
        raise InvalidOperation("not both are greatest flat lots")


def has_lot_and_parts(order, value):
    """Tell whether a value is a pair of a row and as many parts, ascending."""
    if not isinstance(value, tuple) or len(value) != 2:
        return False
    lot, parts = value
    if not isinstance(lot, tuple) or not are_parts(order.places, parts):
        return False
    return len(lot) == len(parts) and all([parts[k] < parts[k + 1] for k in range(len(parts) - 1)])


def all_together(lots):
    """Return the union of some lots."""
    return tuple(sorted(set([place for lot in lots for place in lot])))


def level_bits(order, bits):
    """Return the bits of the levels that the places of a lot have among themselves."""
    found = []
    left = bits
    while left:
        lowest = bare_bits(order.ahead_bits, left)
        found.append(lowest)
        left = left & ~lowest
    return found


def level_numbers(order):
    """Return the dict from the places to their levels, which count from 1."""
    lots = levels(order)
    return {place: k + 1 for k in range(len(lots)) for place in lots[k]}


def next_in_longest(order, bits, least, many):
    """Return the bits with the least further place of a longest chain, or None.

    The further place has at least an index; behind it only later ones come.
    """
    for k in spots(fitting_bits(order, bits) & beyond_index(order, least)):
        longer = bits | (1 << k)
        allowed = fitting_bits(order, longer) & (longer | beyond_index(order, k + 1))
        if len(level_bits(order, allowed)) == many:
            return longer
    return None


def longest_from(order, bits, many):
    """Return the bits of the first longest chain that has these places at first."""
    while len(spots(bits)) < many:
        bits = next_in_longest(order, bits, bits.bit_length(), many)
    return bits


def longest_behind(order, bits, many):
    """Return the bits of the longest chain behind one, or 0 behind the last one."""
    while bits:
        last = bits.bit_length() - 1
        bits = bits ^ (1 << last)
        longer = next_in_longest(order, bits, last + 1, many)
        if longer is not None:
            return longest_from(order, longer, many)
    return 0
