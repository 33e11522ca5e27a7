"""Signs of pairs, of closed lots and of the whole order, and crosscuts."""

from downsets.back.lattices import is_lattice
from downsets.base.checks import all_bits, are_numbers, bits_of, has_bit, is_within, need_place, own_rows, spots
from downsets.base.lots import bare_bits, checked_closed_bits, is_flat, lined_spots
from downsets.base.orders import need_order, step_rows
from downsets.errors import InvalidOperation, TooMany

MAX_CROSSCUT = 12


def sign(order, low, high):
    """Return how many more chains lead from one place to another by even steps."""
    first, last = checked_spots(order, low, high)
    return signs_from(order, first).get(last, 0)


def signs(order):
    """Return the dict from all pairs of a place and one equal to it or behind it to their signs."""
    need_order(order)
    places = order.places
    rows = [signs_from(order, k) for k in range(len(places))]
    spans = range(len(places))
    return {(places[k], places[at]): rows[k][at] for k in spans for at in spans if at in rows[k]}


def chain_numbers(order, low, high):
    """Return the numbers of chains from one place to another with 0, 1, .. steps."""
    first, last = checked_spots(order, low, high)
    ways = [1 if k == first else 0 for k in range(len(order))]
    found = []
    while any([many > 0 for many in ways]):
        found.append(ways[last])
        ways = ways_on(order, ways)
    while found and found[-1] == 0:
        found.pop()
    return tuple(found)


def summed(order, numbers):
    """Return the dict from all places to the sums of the numbers up to them."""
    need_numbers(order, numbers)
    return {place: numbers[place] + sum([numbers[name] for name in order.ahead(place)]) for place in order}


def turned_back(order, sums):
    """Return the dict from all places to the numbers that have these sums."""
    need_numbers(order, sums)
    found = {}
    for k in lined_spots(order):
        place = order.places[k]
        found[place] = sums[place] - sum([found[name] for name in order.ahead(place)])
    return {place: found[place] for place in order}


def closed_sign(order, lot, other):
    """Return the sign of two closed lots."""
    bits = checked_closed_bits(order, lot)
    wide = checked_closed_bits(order, other)
    added = wide & ~bits
    if not is_within(bits, wide) or bare_bits(order.behind_bits, added) != added:
        return 0
    return even_sign(len(spots(added)))


def whole_chains(order):
    """Return the numbers of all chains with 0, 1, .. places."""
    need_order(order)
    ways = [1] * len(order)
    found = [1]
    while any([many > 0 for many in ways]):
        found.append(sum(ways))
        ways = ways_on(order, ways)
    return tuple(found)


def whole_sign(order):
    """Return the sign of the order between a new lowest and a new highest place."""
    return -alternating(whole_chains(order))


def is_crosscut(order, value):
    """Tell whether a value is a crosscut of a lattice order."""
    need_three_lattice(order)
    return is_crosscut_of(order, value)


def crosscut_lots(order, crosscut):
    """Return the numbers of the lots within a crosscut that join and meet at the ends."""
    need_three_lattice(order)
    if not is_crosscut_of(order, crosscut):
        raise InvalidOperation("no crosscut of the order")
    if len(crosscut) > MAX_CROSSCUT:
        raise TooMany(MAX_CROSSCUT)
    ends = (1 << order.places.index(order.tops[0]), 1 << order.places.index(order.firsts[0]))
    counts = [0] * (len(crosscut) + 1)
    for many, above, below in bounds_within(order, crosscut):
        if (above, below) == ends:
            counts[many] += 1
    return tuple(counts)


def crosscut_sign(order, crosscut):
    """Return the sign of the lowest and the highest place that a crosscut tells."""
    return alternating(crosscut_lots(order, crosscut))


def checked_spots(order, low, high):
    """Return the indices of two places, or raise the errors of the parameters."""
    need_order(order)
    need_place(order.places, low)
    need_place(order.places, high)
    return order.places.index(low), order.places.index(high)


def need_numbers(order, numbers):
    """Refuse what is no order, and what is no dict from its places to integers."""
    need_order(order)
    if not are_numbers(order.places, numbers):
        raise InvalidOperation("no dict from just the places to integers")


def need_three_lattice(order):
    """Refuse what is no lattice order with at least three places."""
    if not is_lattice(order) or len(order) < 3:
        raise InvalidOperation("no lattice order with at least three places")


def signs_from(order, first):
    """Return the dict from a place and all behind it to the signs from it, by indices.

    The signs from a place to all up to another one, this one too, sum to 0.
    """
    found = {first: 1}
    for k in lined_spots(order):
        if has_bit(order.behind_bits[first], k):
            found[k] = -sum([found[at] for at in spots(order.ahead_bits[k]) if at in found])
    return found


def ways_on(order, ways):
    """Return the numbers of chains that lead one step on, by the places they lead to."""
    return [sum([ways[at] for at in spots(row)]) for row in order.ahead_bits]


def even_sign(many):
    """Return 1 for an even number and -1 for an odd one."""
    return 1 if many & 1 == 0 else -1


def alternating(counts):
    """Return the sum of numbers, each second one taken away."""
    return sum([even_sign(k) * counts[k] for k in range(len(counts))])


def is_crosscut_of(order, value):
    """Tell whether a value is a crosscut of what is known to be such a lattice order."""
    if not is_flat(order, value) or order.firsts[0] in value or order.tops[0] in value:
        return False
    return not does_pass_by(order, bits_of(order.places, value))


def does_pass_by(order, bits):
    """Tell whether steps lead from the lowest to the highest place around a lot."""
    down = step_rows(order.ahead_bits)
    reached = 0
    for k in lined_spots(order):
        if not has_bit(bits, k) and (down[k] == 0 or down[k] & reached != 0):
            reached = reached | (1 << k)
    return has_bit(reached, order.places.index(order.tops[0]))


def bounds_within(order, crosscut):
    """Return for each lot within a crosscut its size, and the bits above and below it."""
    above = own_rows(order.behind_bits)
    below = own_rows(order.ahead_bits)
    whole = all_bits(len(order))
    found = [(0, whole, whole)]
    for place in crosscut:
        k = order.places.index(place)
        found = found + [(many + 1, up & above[k], down & below[k]) for many, up, down in found]
    return found
