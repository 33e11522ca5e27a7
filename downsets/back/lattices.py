"""Lattice orders, and which of them are made of the closed lots of an order."""

from downsets.base.checks import bits_of, has_bit, is_place_of, is_within, need_place, own_rows, spots
from downsets.base.lots import beside_bits, closed_bits_within, closed_lots, is_closed
from downsets.base.orders import MAX_MADE, Order, are_different, made, need_order, step_rows
from downsets.errors import InvalidOperation, TooMany


def join(order, one, other):
    """Return the least place that is equal to or behind both places, or None."""
    need_order(order)
    return bound(order, order.behind_bits, one, other)


def meet(order, one, other):
    """Return the greatest place that is equal to or ahead of both places, or None."""
    need_order(order)
    return bound(order, order.ahead_bits, one, other)


def lowest(order):
    """Return the place that is ahead of all others, or None."""
    need_order(order)
    return order.firsts[0] if len(order.firsts) == 1 else None


def highest(order):
    """Return the place that is behind all others, or None."""
    need_order(order)
    return order.tops[0] if len(order.tops) == 1 else None


def is_lattice(order):
    """Tell whether each two places have a join and a meet."""
    return lattice_paper(order)[0] == "lattice"


def lattice_paper(order):
    """Return a paper with all joins and meets, or with two places that lack one."""
    need_order(order)
    joins = bound_table(order.behind_bits)
    meets = bound_table(order.ahead_bits)
    table = {}
    for one, other in lesser_first(order.places):
        high = place_at(order, joins, one, other)
        low = place_at(order, meets, one, other)
        if high is None:
            return ("none", "join", one, other)
        if low is None:
            return ("none", "meet", one, other)
        table[(one, other)] = (high, low)
    return ("lattice", table)


def is_lattice_paper(order, value):
    """Tell whether a value is a lattice paper of the order."""
    need_order(order)
    if not isinstance(value, tuple):
        return False
    if len(value) == 2:
        return value == lattice_paper(order)
    return len(value) == 4 and is_lattice_bar(order, value)


def one_down(order):
    """Return the lot of the places that just one step leads to."""
    need_order(order)
    return one_step_lot(order.places, step_rows(order.ahead_bits))


def one_up(order):
    """Return the lot of the places that just one step leads from."""
    need_order(order)
    return one_step_lot(order.places, step_rows(order.behind_bits))


def does_split(order):
    """Tell whether a lattice order is made of the closed lots of an order."""
    need_big_lattice(order)
    return first_five(order) is None


def split_paper(order):
    """Return a paper with an inner order and its closed lots, or with a five."""
    need_big_lattice(order)
    five = first_five(order)
    if five is not None:
        return ("five", five)
    inner = order.within(one_down(order))
    table = {}
    for place in order:
        below = (place,) + order.ahead(place)
        table[place] = tuple([name for name in inner if name in below])
    return ("lots", inner, table)


def is_split_paper(order, value):
    """Tell whether a value is a split paper of a lattice order."""
    need_big_lattice(order)
    if not isinstance(value, tuple):
        return False
    if len(value) == 2:
        return value[0] == "five" and is_five(order, value[1])
    if len(value) != 3 or value[0] != "lots":
        return False
    return are_inner_lots(order, value[1], value[2])


def lots_order(order, names):
    """Return the lattice order of the closed lots of an order."""
    need_order(order)
    if closed_bits_within(order, MAX_MADE) is None:
        raise TooMany(MAX_MADE)
    lots = closed_lots(order)
    if not isinstance(names, tuple) or len(names) != len(lots) or not are_different(names):
        raise InvalidOperation("no tuple of as many different places as closed lots")
    bits = [bits_of(order.places, lot) for lot in lots]
    spans = range(len(names))
    pairs = [(names[k], names[at]) for k in spans for at in spans if is_part(bits[k], bits[at])]
    return made(names, pairs)


def is_part(bits, wider):
    """Tell whether bits are a part of others, and unlike them."""
    return bits != wider and is_within(bits, wider)


def lesser_first(places):
    """Return all pairs of the ascending places, the lesser one first."""
    many = len(places)
    return [(places[k], places[at]) for k in range(many) for at in range(k + 1, many)]


def bound(order, rows, one, other):
    """Return the join of two places, or with the rows ahead their meet, or None."""
    need_place(order.places, one)
    need_place(order.places, other)
    return place_at(order, bound_table(rows), one, other)


def bound_table(rows):
    """Return the lists of the indices of all joins, or None where one lacks.

    What is equal to or behind two places is just the row of their join, with
    the join itself; all such rows are different.
    """
    wide = own_rows(rows)
    at = {wide[k]: k for k in range(len(wide))}
    return [[at.get(first & second) for second in wide] for first in wide]


def place_at(order, table, one, other):
    """Return the place that a table has for two places, or None."""
    at = table[order.places.index(one)][order.places.index(other)]
    return None if at is None else order.places[at]


def is_lattice_bar(order, value):
    """Tell whether four values are a bar: two places without a join, or a meet."""
    start, word, one, other = value
    places = order.places
    if start != "none" or not is_place_of(places, one) or not is_place_of(places, other):
        return False
    if not one < other:
        return False
    if word == "join":
        return join(order, one, other) is None
    return word == "meet" and meet(order, one, other) is None


def one_step_lot(places, rows):
    """Return the lot of the places whose row has just one place."""
    return tuple([places[k] for k in range(len(places)) if len(spots(rows[k])) == 1])


def need_big_lattice(order):
    """Refuse what is no lattice order with at least two places."""
    if not is_lattice(order) or len(order) < 2:
        raise InvalidOperation("no lattice order with at least two places")


def first_five(order):
    """Return a five of a lattice order, or None."""
    joins = bound_table(order.behind_bits)
    meets = bound_table(order.ahead_bits)
    for k in range(len(order)):
        for at in range(len(order)):
            third = third_of_five(order, joins, meets, k, at)
            if third is not None:
                spread = (meets[k][third], k, at, third, joins[k][third])
                return tuple([order.places[spot] for spot in spread])
    return None


def third_of_five(order, joins, meets, first, second):
    """Return the index of a place that makes a five with two others, or None."""
    is_ahead = has_bit(order.behind_bits[first], second)
    for third in spots(beside_bits(order, first) & beside_bits(order, second)):
        ends = (joins[first][third], meets[first][third])
        if ends == (joins[second][third], meets[second][third]):
            if is_ahead or ends == (joins[first][second], meets[first][second]):
                return third
    return None


def is_five(order, value):
    """Tell whether a value is a five of a lattice order."""
    if not isinstance(value, tuple) or len(value) != 5:
        return False
    if not all([is_place_of(order.places, place) for place in value]):
        return False
    if len(set(value)) < 5:
        return False
    low, first, second, third, high = value
    # Places whose meet is neither of them are beside one another.
    duos = [(first, third), (second, third)]
    if not order.is_ahead(first, second):
        duos.append((first, second))
    ends = [(meet(order, one, other), join(order, one, other)) for one, other in duos]
    return all([end == (low, high) for end in ends])


def are_inner_lots(order, inner, table):
    """Tell whether a dict leads the places to the closed lots of an inner order."""
    if not isinstance(inner, Order) or not isinstance(table, dict) or len(table) != len(order):
        return False
    if not all([place in table and is_closed(inner, table[place]) for place in order]):
        return False
    bits = [bits_of(inner.places, table[place]) for place in order]
    if closed_bits_within(inner, len(bits)) != sorted(bits):
        return False
    spans = range(len(bits))
    behind = order.behind_bits
    return all([has_bit(behind[k], at) == is_part(bits[k], bits[at]) for k in spans for at in spans])
