"""Closed lots with the greatest weight, and payments that bar heavier ones."""

from downsets.back.lattices import is_part
from downsets.base.checks import all_bits, are_numbers, has_bit, lot_of, need_lot, spots, sum_over
from downsets.base.checks import turned_rows
from downsets.base.lots import closed_bits, is_closed
from downsets.base.orders import is_pair, made, need_order
from downsets.base.words import is_whole
from downsets.errors import InvalidOperation
from downsets.wide.flows import greatest_links, reached

MAX_WEIGHT = 1000


def weight_of(order, weights, lot):
    """Return the sum of the weights of the places of a lot."""
    need_order_and_weights(order, weights)
    need_lot(order.places, lot)
    return sum_over(weights, lot)


def greatest_weight(order, weights):
    """Return the weight of the heaviest closed lots."""
    need_order_and_weights(order, weights)
    return sum_above(paid(order.ahead_bits, number_row(order, weights))[1])


def heaviest_lots(order, weights):
    """Return all heaviest closed lots, ascending."""
    need_order_and_weights(order, weights)
    return tuple(sorted([lot_of(order.places, bits) for bits in heaviest_bits(order, weights)]))


def least_heaviest(order, weights):
    """Return the heaviest closed lot that is within all others."""
    need_order_and_weights(order, weights)
    return lot_of(order.places, heaviest_ends(order.ahead_bits, number_row(order, weights))[0])


def greatest_heaviest(order, weights):
    """Return the heaviest closed lot that has all others within it."""
    need_order_and_weights(order, weights)
    return lot_of(order.places, heaviest_ends(order.ahead_bits, number_row(order, weights))[1])


def is_payments(order, value):
    """Tell whether a value is payments of places to places ahead of them."""
    need_order(order)
    if not isinstance(value, dict) or not all([is_pair(order.places, duo) for duo in value]):
        return False
    if not all([order.is_ahead(taker, payer) for payer, taker in value]):
        return False
    return all([is_whole(many) and many >= 1 for many in list(value.values())])


def left_over(order, weights, payments):
    """Return the dict from all places to what payments leave there."""
    need_order_and_weights(order, weights)
    if not is_payments(order, payments):
        raise InvalidOperation("no payments")
    return left_at_places(weights, payments)


def weight_paper(order, weights):
    """Return a paper with a heaviest closed lot, and payments that bar heavier ones."""
    need_order_and_weights(order, weights)
    numbers = number_row(order, weights)
    lot = lot_of(order.places, heaviest_ends(order.ahead_bits, numbers)[0])
    return ("heaviest", lot, named_payments(order, paid(order.ahead_bits, numbers)[0]))


def is_weight_paper(order, weights, value):
    """Tell whether a value is a weight paper."""
    need_order_and_weights(order, weights)
    if not isinstance(value, tuple) or len(value) != 3:
        return False
    word, lot, payments = value
    if word != "heaviest" or not is_closed(order, lot) or not is_payments(order, payments):
        return False
    return sum_over(weights, lot) == sum_above(list(left_at_places(weights, payments).values()))


def heavy_classes(order, weights):
    """Return the classes of places that each heaviest closed lot has together, ascending."""
    need_order_and_weights(order, weights)
    groups = class_groups(order, heaviest_bits(order, weights))
    return tuple([tuple(groups[least]) for least in groups])


def heavy_order(order, weights):
    """Return the order of the classes, told by their first places, or None without classes."""
    need_order_and_weights(order, weights)
    groups = class_groups(order, heaviest_bits(order, weights))
    if not groups:
        return None
    pairs = [(groups[one][0], groups[other][0]) for one in groups for other in groups if is_part(one, other)]
    return made([groups[least][0] for least in groups], pairs)


def need_weights(order, weights):
    """Refuse what is no dict from just the places to weights."""
    if not are_numbers(order.places, weights):
        raise InvalidOperation("no dict from just the places to integers")
    if not all([-MAX_WEIGHT <= weights[place] <= MAX_WEIGHT for place in order]):
        raise InvalidOperation("a weight is out of its bounds")


def need_order_and_weights(order, weights):
    """Refuse what is no order, and what are no weights of its places."""
    need_order(order)
    need_weights(order, weights)


def number_row(order, numbers):
    """Return the list of the numbers of the places."""
    return [numbers[place] for place in order]


def sum_above(numbers):
    """Return the sum of the numbers above 0."""
    return sum([number for number in numbers if number > 0])


def left_at_places(weights, payments):
    """Return the ascending dict from places to their weights, less what they pay, plus what they get."""
    left = {place: weights[place] for place in sorted(weights)}
    for payer, taker in payments:
        left[payer] = left[payer] - payments[(payer, taker)]
        left[taker] = left[taker] + payments[(payer, taker)]
    return left


def paid(rows, numbers):
    """Return payments as many as can be, told by indices, and the list of what is left over.

    The rows have the bits of the places ahead of each. What is above 0 is paid
    for what is below 0 ahead of it.
    """
    links, free, room = greatest_links(
        [max(0, number) for number in numbers], [max(0, -number) for number in numbers], rows)
    payments = {link: links[link] for link in links if links[link] > 0}
    return payments, [free[k] - room[k] for k in range(len(numbers))]


def heaviest_ends(rows, numbers):
    """Return the bits of the least and of the greatest one of the heaviest closed lots.

    The least one has what is left over above 0, and all that must come with it:
    the places ahead, and with a taker its payers. What the greatest one lacks
    is told likewise, with ahead and behind exchanged.
    """
    payments, left = paid(rows, numbers)
    returned = {(taker, payer): payments[(payer, taker)] for payer, taker in payments}
    least = led_from([max(0, number) for number in left], rows, payments)
    lacking = led_from([max(0, -number) for number in left], turned_rows(rows), returned)
    return least, all_bits(len(rows)) & ~lacking


def led_from(free, rows, links):
    """Return the bits of all places that free units lead to."""
    givers, takers = reached(free, rows, links)
    return sum([1 << k for k in range(len(rows)) if k in givers or k in takers])


def named_payments(order, payments):
    """Return the ascending dict of payments that are told by indices."""
    return {(order.places[k], order.places[at]): payments[(k, at)] for k, at in sorted(payments)}


def heaviest_bits(order, weights):
    """Return the bits of all heaviest closed lots, ascending."""
    numbers = number_row(order, weights)
    weighed = [(sum([numbers[k] for k in spots(bits)]), bits) for bits in closed_bits(order)]
    most = max([weight for weight, _ in weighed])
    return [bits for weight, bits in weighed if weight == most]


def class_groups(order, heaviest):
    """Return the dict of the classes of places by the least heaviest lots that have them.

    Each of these lots, told by its bits, is what is common to all heaviest lots
    that have a place. No class has the places of the first of all heaviest
    lots, which is the least one, and of those that the last one lacks.
    """
    groups = {}
    for k in range(len(order)):
        least = all_bits(len(order))
        for bits in heaviest:
            if has_bit(bits, k):
                least = least & bits
        if least != heaviest[0] and has_bit(heaviest[-1], k):
            groups.setdefault(least, []).append(order.places[k])
    return groups
