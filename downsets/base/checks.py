"""What can be told of places without an order: checks, and lots as bits.

Inside the package a lot is also an integer, its bits: bit k is set if the lot
has the place at index k of the ascending places. Unions and common parts are
single steps then, and a part of a lot always has the lesser number.
"""

from downsets.base.words import is_whole
from downsets.errors import InvalidLot, InvalidNumber, InvalidOperation, UnknownPlace


def is_place_of(places, value):
    """Tell whether a value is one of the places."""
    return isinstance(value, str) and value in places


def is_lot_of(places, value):
    """Tell whether a value is an ascending tuple of some of the places."""
    if not isinstance(value, tuple):
        return False
    if not all([is_place_of(places, place) for place in value]):
        return False
    return all([value[k] < value[k + 1] for k in range(len(value) - 1)])


def has_just_keys(places, value):
    """Tell whether a value is a dict that has just the places as its keys."""
    return isinstance(value, dict) and len(value) == len(places) and all([place in value for place in places])


def are_numbers(places, value):
    """Tell whether a value is a dict from just the places to integers."""
    return has_just_keys(places, value) and all([is_whole(value[place]) for place in places])


def sum_over(numbers, lot):
    """Return the sum of the numbers of the places of a lot."""
    return sum([numbers[place] for place in lot])


def are_parts(places, value):
    """Tell whether a value is a tuple of lots, none empty, with each place in just one."""
    if not isinstance(value, tuple):
        return False
    if not all([is_lot_of(places, lot) and len(lot) > 0 for lot in value]):
        return False
    return sorted([place for lot in value for place in lot]) == list(places)


def need_place(places, place):
    """Refuse what is none of the places."""
    if not is_place_of(places, place):
        raise UnknownPlace(place)


def need_two(places, one, other):
    """Refuse what are no two different places."""
    need_place(places, one)
    need_place(places, other)
    if one == other:
        raise InvalidOperation("the two places are equal")


def need_lot(places, lot):
    """Refuse what is no lot of the places."""
    if not is_lot_of(places, lot):
        raise InvalidLot("no ascending tuple of places of the order")


def need_many(many):
    """Refuse what is no integer of at least 1."""
    if not is_whole(many) or many < 1:
        raise InvalidNumber(many)


def has_bit(bits, at):
    """Tell whether a bit is set."""
    return (bits >> at) & 1 == 1


def is_within(bits, wider):
    """Tell whether all bits are set in others."""
    return bits & wider == bits


def spots(bits):
    """Return the ascending list of the indices of the bits that are set."""
    return [k for k in range(bits.bit_length()) if (bits >> k) & 1 == 1]


def all_bits(many):
    """Return the bits of so many places."""
    return (1 << many) - 1


def bits_of(places, lot):
    """Return the bits of a lot of the places."""
    return sum([1 << places.index(place) for place in lot])


def lot_of(places, bits):
    """Return the lot of the places with these bits."""
    return tuple([places[k] for k in spots(bits)])


def bit_rows(places, pairs):
    """Return for each place the bits of those that pairs lead to it from."""
    at = {places[k]: k for k in range(len(places))}
    rows = [0] * len(places)
    for one, other in pairs:
        rows[at[other]] = rows[at[other]] | (1 << at[one])
    return rows


def turned_rows(rows):
    """Return the rows of bits with ahead and behind exchanged."""
    spans = range(len(rows))
    return [sum([1 << k for k in spans if has_bit(rows[k], at)]) for at in spans]


def followed_rows(rows):
    """Return the rows of bits with all that follows from them."""
    for k in range(len(rows)):
        rows = [row | rows[k] if has_bit(row, k) else row for row in rows]
    return rows


def own_rows(rows):
    """Return the rows of bits with the bit of each place itself."""
    return [rows[k] | (1 << k) for k in range(len(rows))]
