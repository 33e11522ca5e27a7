"""Families of lots: when lots are just the closed lots of an order.

In this module the marks of lots are a dict that has their bits as keys.
"""

from downsets.base.checks import all_bits, bits_of, has_bit, is_lot_of, is_within, lot_of, spots
from downsets.base.lots import closed_bits
from downsets.base.orders import Order, made, need_order, need_places
from downsets.errors import InvalidLot, InvalidOperation


def family_paper(places, lots):
    """Return a paper that shows the order of a family, or what bars one."""
    names, marks = checked_marks(places, lots)
    bar = first_bar(names, marks)
    if bar is None:
        return ("order", order_of_marks(names, marks))
    return bar


def is_family_paper(places, lots, value):
    """Tell whether a value is a family paper of the lots."""
    names, marks = checked_marks(places, lots)
    if not isinstance(value, tuple):
        return False
    if len(value) == 1:
        return value in bars_of_ends(names, marks)
    if len(value) == 2:
        return value[0] == "order" and is_order_of(names, marks, value[1])
    return len(value) == 3 and is_bar_of_two(names, marks, value)


def is_family(places, value):
    """Tell whether a value is a family of lots of the places."""
    need_places(places)
    names = tuple(sorted(places))
    return are_lots(names, value) and first_bar(names, marks_of(names, value)) is None


def order_of(places, lots):
    """Return the order whose closed lots the lots are."""
    names, marks = checked_marks(places, lots)
    if first_bar(names, marks) is not None:
        raise InvalidOperation("the lots are no family")
    return order_of_marks(names, marks)


def unparted(places, lots):
    """Return all pairs of places that no lot parts, ascending."""
    names, marks = checked_marks(places, lots)
    return unparted_pairs(names, marks)


def completed(places, lots):
    """Return the fewest lots that have these, both ends, all unions and common parts."""
    names, marks = checked_marks(places, lots)
    rows = common_rows(names, marks)
    return tuple(sorted([lot_of(names, bits) for bits in bits_closed_by(rows)]))


def own_lots(order):
    """Return the dict from the places to their closures."""
    need_order(order)
    return {place: order.closure((place,)) for place in order}


def are_lots(names, value):
    """Tell whether a value is a tuple of lots of the places."""
    return isinstance(value, tuple) and all([is_lot_of(names, lot) for lot in value])


def checked_marks(places, lots):
    """Return the places, ascending, and the marks of the lots, or raise their errors."""
    need_places(places)
    names = tuple(sorted(places))
    if not are_lots(names, lots):
        raise InvalidLot("no tuple of lots of the places")
    return names, marks_of(names, lots)


def marks_of(names, lots):
    """Return the marks of lots of the places."""
    return {bits_of(names, lot): True for lot in lots}


def first_bar(names, marks):
    """Return a bar of the lots, or None if they are a family."""
    bars = bars_of_ends(names, marks)
    if bars:
        return bars[0]
    lots = sorted([(lot_of(names, bits), bits) for bits in marks])
    for k in range(len(lots)):
        one, first = lots[k]
        for other, second in lots[k + 1:]:
            if first | second not in marks:
                return ("union", one, other)
            if first & second not in marks:
                return ("common", one, other)
    alike = unparted_pairs(names, marks)
    return ("alike", alike[0][0], alike[0][1]) if alike else None


def bars_of_ends(names, marks):
    """Return the bars for the lot without places and the lot of all."""
    bars = []
    if 0 not in marks:
        bars.append(("empty",))
    if all_bits(len(names)) not in marks:
        bars.append(("whole",))
    return bars


def is_bar_of_two(names, marks, value):
    """Tell whether a triple is a bar with two lots or two places."""
    word, one, other = value
    if word == "alike":
        return (one, other) in unparted_pairs(names, marks)
    if not is_marked(names, marks, one) or not is_marked(names, marks, other) or not one < other:
        return False
    first = bits_of(names, one)
    second = bits_of(names, other)
    if word == "union":
        return first | second not in marks
    return word == "common" and first & second not in marks


def is_marked(names, marks, value):
    """Tell whether a value is one of the lots."""
    return is_lot_of(names, value) and bits_of(names, value) in marks


def unparted_pairs(names, marks):
    """Return the pairs of places, the lesser one first, that are in the same lots."""
    rows = common_rows(names, marks)
    spans = range(len(names))
    return tuple([
        (names[k], names[at]) for k in spans for at in range(k + 1, len(names))
        if has_bit(rows[k], at) and has_bit(rows[at], k)
    ])


def common_rows(names, marks):
    """Return for each place the bits that all lots with it have."""
    rows = []
    for k in range(len(names)):
        row = all_bits(len(names))
        for bits in marks:
            if has_bit(bits, k):
                row = row & bits
        rows.append(row)
    return rows


def bits_closed_by(rows):
    """Return the bits of all lots that have with each place all of its row."""
    every = range(all_bits(len(rows)) + 1)
    return [bits for bits in every if all([is_within(rows[k], bits) for k in spots(bits)])]


def order_of_marks(names, marks):
    """Return the order in which those in each lot with a place are ahead of it."""
    rows = common_rows(names, marks)
    spans = range(len(names))
    return made(names, [(names[k], names[at]) for at in spans for k in spots(rows[at]) if k != at])


def is_order_of(names, marks, value):
    """Tell whether a value is the order whose closed lots the lots are."""
    if not isinstance(value, Order) or value.places != names:
        return False
    return sorted(marks) == closed_bits(value)
