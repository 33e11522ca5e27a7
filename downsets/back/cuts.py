"""Cuts: an order filled up to the least lattice order in which it lies."""

from downsets.back.lattices import is_lattice, is_part
from downsets.base.checks import all_bits, bits_of, has_bit, is_lot_of, is_place_of, lot_of, need_place, own_rows
from downsets.base.checks import spots
from downsets.base.lots import checked_bits
from downsets.base.orders import MAX_MADE, Order, are_different, are_names, made, need_order
from downsets.errors import InvalidOperation, InvalidOrder, TooMany

MAX_CUTS = 4000
LETTERS = "abcdefghijklmnopqrstuvwxyz"


def uppers(order, lot):
    """Return the lot of the places that are equal to or behind each place of a lot."""
    bits = checked_bits(order, lot)
    return lot_of(order.places, upper_bits(order, bits))


def lowers(order, lot):
    """Return the lot of the places that are equal to or ahead of each place of a lot."""
    bits = checked_bits(order, lot)
    return lot_of(order.places, lower_bits(order, bits))


def cuts(order):
    """Return all cuts, ascending."""
    need_order(order)
    return tuple(sorted([cut_with(order, bits) for bits in cut_bits(order)]))


def cut_number(order):
    """Return how many cuts there are."""
    need_order(order)
    return len(cut_bits(order))


def gaps(order):
    """Return all cuts that are the cut of no place, ascending."""
    found = cuts(order)
    own = place_cuts(order)
    return tuple([cut for cut in found if cut not in own])


def is_cut(order, value):
    """Tell whether a value is a cut of the order."""
    need_order(order)
    if not isinstance(value, tuple) or len(value) != 2:
        return False
    if not all([is_lot_of(order.places, lot) for lot in value]):
        return False
    lower, upper = [bits_of(order.places, lot) for lot in value]
    return upper_bits(order, lower) == upper and lower_bits(order, upper) == lower


def cut_of(order, place):
    """Return the cut of a place."""
    need_order(order)
    need_place(order.places, place)
    return join_cut(order, (place,))


def join_cut(order, lot):
    """Return the cut with the uppers of a lot as its second lot."""
    upper = upper_bits(order, checked_bits(order, lot))
    return cut_with(order, lower_bits(order, upper))


def meet_cut(order, lot):
    """Return the cut with the lowers of a lot as its first lot."""
    return cut_with(order, lower_bits(order, checked_bits(order, lot)))


def filled(order):
    """Return the lattice order of the cuts, and the dict from the places to their places in it."""
    found = cuts(order)
    if len(found) > MAX_MADE:
        raise TooMany(MAX_MADE)
    names = cut_names(order, found)
    lower = {cut: bits_of(order.places, cut[0]) for cut in found}
    pairs = [(names[one], names[other]) for one in found for other in found if is_part(lower[one], lower[other])]
    return (made([names[cut] for cut in found], pairs), {place: place for place in order})


def is_filled(order, value):
    """Tell whether a value is a filled order of the order."""
    need_order(order)
    if not isinstance(value, tuple) or len(value) != 2:
        return False
    lattice, names = value
    if not isinstance(lattice, Order) or not is_lattice(lattice) or not is_lying(order, lattice, names):
        return False
    named = named_bits(lattice, list(names.values()))
    ahead = own_rows(lattice.ahead_bits)
    behind = own_rows(lattice.behind_bits)
    return are_bounds(behind, ahead, named) and are_bounds(ahead, behind, named)


def laid_into(order, lattice, names):
    """Return the dict from all cuts to places of a lattice order in which the order lies."""
    need_lying(order, lattice, names)
    behind = own_rows(lattice.behind_bits)
    places = {}
    for cut in cuts(order):
        bits = named_bits(lattice, [names[place] for place in cut[0]])
        places[cut] = lattice.places[behind.index(bounded_bits(behind, bits))]
    return places


def is_laid_into(order, lattice, names, value):
    """Tell whether a value is such a dict from all cuts to places of a lattice order."""
    need_lying(order, lattice, names)
    if not isinstance(value, dict) or not all([is_cut(order, cut) for cut in value]):
        return False
    if len(value) != cut_number(order) or not are_places_of(lattice, list(value.values())):
        return False
    if not all([value[cut_of(order, place)] == names[place] for place in order]):
        return False
    rows = [(bits_of(order.places, cut[0]), lattice.places.index(value[cut])) for cut in value]
    behind = lattice.behind_bits
    return all([is_part(one, other) == has_bit(behind[k], at) for one, k in rows for other, at in rows])


def bounded_bits(rows, bits):
    """Return the bits that the rows of all places of a lot have; for none, all."""
    found = all_bits(len(rows))
    for k in spots(bits):
        found = found & rows[k]
    return found


def upper_bits(order, bits):
    """Return the bits of the places that are equal to or behind each place of a lot."""
    return bounded_bits(own_rows(order.behind_bits), bits)


def lower_bits(order, bits):
    """Return the bits of the places that are equal to or ahead of each place of a lot."""
    return bounded_bits(own_rows(order.ahead_bits), bits)


def cut_with(order, bits):
    """Return the cut whose first lot has these bits."""
    return (lot_of(order.places, bits), lot_of(order.places, upper_bits(order, bits)))


def cut_bits(order):
    """Return the bits of the first lots of all cuts, if they are not too many."""
    found = {all_bits(len(order)): True}
    for row in own_rows(order.ahead_bits):
        # What is common to two cuts is a cut, so that there are never fewer later.
        for bits in list(found):
            found[bits & row] = True
        if len(found) > MAX_CUTS:
            raise TooMany(MAX_CUTS)
    return sorted(found)


def place_cuts(order):
    """Return the dict from the cuts of the places to these."""
    return {cut_of(order, place): place for place in order}


def cut_names(order, found):
    """Return the dict from few cuts to different places; the cuts of places have their names."""
    own = place_cuts(order)
    spare = [one + other for one in LETTERS for other in LETTERS if one + other not in order]
    names = {}
    for cut in found:
        names[cut] = own[cut] if cut in own else spare[len(names)]
    return names


def need_lying(order, lattice, names):
    """Refuse what is no order, no lattice order, and no dict by which the one lies in the other."""
    need_order(order)
    if not is_lattice(lattice):
        raise InvalidOrder("no lattice order")
    if not is_lying(order, lattice, names):
        raise InvalidOperation("no dict by which the order lies in the lattice order")


def is_lying(order, lattice, names):
    """Tell whether a value is a dict by which an order lies in another one."""
    if not are_names(order.places, names):
        return False
    lot = tuple(sorted(list(names.values())))
    return is_lot_of(lattice.places, lot) and order.renamed(names) == lattice.within(lot)


def named_bits(lattice, names):
    """Return the bits of some places of a lattice order, in any order."""
    return bits_of(lattice.places, tuple(sorted(names)))


def are_places_of(lattice, values):
    """Tell whether values are different places of a lattice order."""
    return all([is_place_of(lattice.places, value) for value in values]) and are_different(values)


def are_bounds(behind, ahead, named):
    """Tell whether each place is the join of the named places equal to it or ahead of it.

    The rows have each place itself. With both exchanged, this tells whether
    each place is the meet of the named places equal to it or behind it.
    """
    return all([bounded_bits(behind, named & ahead[k]) == behind[k] for k in range(len(behind))])
