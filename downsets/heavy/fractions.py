"""Means of closed lots, and the critical fractions at which the heaviest lots change."""

from downsets.base.checks import all_bits, are_numbers, lot_of, need_lot, spots, sum_over
from downsets.base.lots import is_closed
from downsets.base.orders import need_order
from downsets.base.words import fraction, is_fraction
from downsets.errors import InvalidLot, InvalidOperation
from downsets.heavy.weights import heaviest_ends, is_payments, left_at_places, named_payments, need_weights
from downsets.heavy.weights import number_row, paid

MAX_LENGTH = 1000


def length_of(order, lengths, lot):
    """Return the sum of the lengths of the places of a lot."""
    need_order(order)
    need_lengths(order, lengths)
    need_lot(order.places, lot)
    return sum_over(lengths, lot)


def mean_of(order, weights, lengths, lot):
    """Return the fraction of the weight of a lot by its length."""
    need_weighed(order, weights, lengths)
    need_lot(order.places, lot)
    if not lot:
        raise InvalidLot("the lot is empty")
    return mean_within(weights, lengths, lot)


def heaviest_at(order, weights, lengths, level):
    """Return the least and the greatest one of the lots that are heaviest at a fraction."""
    need_weighed(order, weights, lengths)
    if not is_fraction(level):
        raise InvalidOperation("no fraction")
    numbers = number_row(order, weights_at(weights, lengths, level))
    least, greatest = heaviest_ends(order.ahead_bits, numbers)
    return (lot_of(order.places, least), lot_of(order.places, greatest))


def critical_fractions(order, weights, lengths):
    """Return all critical fractions, the greatest one first."""
    return tuple([mean_within(weights, lengths, lot) for lot in blocks(order, weights, lengths)])


def nested_lots(order, weights, lengths):
    """Return the lots that are heaviest at fractions that are not critical, from that without places on."""
    need_weighed(order, weights, lengths)
    return tuple([lot_of(order.places, bits) for bits in nested_bits(order, weights, lengths)])


def blocks(order, weights, lengths):
    """Return what each nested lot has beyond the one ahead of it, in their order."""
    need_weighed(order, weights, lengths)
    nested = nested_bits(order, weights, lengths)
    return tuple([lot_of(order.places, nested[k + 1] & ~nested[k]) for k in range(len(nested) - 1)])


def greatest_mean(order, weights, lengths):
    """Return the greatest mean of the closed lots that have places, and the greatest such lot with it."""
    lot = nested_lots(order, weights, lengths)[1]
    return (mean_within(weights, lengths, lot), lot)


def mean_paper(order, weights, lengths):
    """Return a paper with a closed lot with the greatest mean, and payments that bar greater ones."""
    mean, lot = greatest_mean(order, weights, lengths)
    numbers = number_row(order, weights_at(weights, lengths, mean))
    return ("mean", lot, named_payments(order, paid(order.ahead_bits, numbers)[0]))


def is_mean_paper(order, weights, lengths, value):
    """Tell whether a value is a mean paper."""
    need_weighed(order, weights, lengths)
    if not isinstance(value, tuple) or len(value) != 3:
        return False
    word, lot, payments = value
    if word != "mean" or not is_closed(order, lot) or not is_payments(order, payments) or len(lot) == 0:
        return False
    numbers = weights_at(weights, lengths, mean_within(weights, lengths, lot))
    return all([number <= 0 for number in list(left_at_places(numbers, payments).values())])


def need_lengths(order, lengths):
    """Refuse what is no dict from just the places to lengths."""
    if not are_numbers(order.places, lengths) or not all([1 <= lengths[place] <= MAX_LENGTH for place in order]):
        raise InvalidOperation("no dict from just the places to lengths")


def need_weighed(order, weights, lengths):
    """Refuse what is no order, and what are no weights and no lengths of its places."""
    need_order(order)
    need_weights(order, weights)
    need_lengths(order, lengths)


def mean_within(weights, lengths, lot):
    """Return the mean of a lot that has places."""
    return fraction(sum_over(weights, lot), sum_over(lengths, lot))


def weights_at(weights, lengths, level):
    """Return the dict from the places to what they weigh at a fraction, times its second number."""
    above, below = level
    return {place: below * weights[place] - above * lengths[place] for place in weights}


def nested_bits(order, weights, lengths):
    """Return the bits of the nested lots, from 0 on."""
    heavy = number_row(order, weights)
    long = number_row(order, lengths)
    return [0] + nested_between(order.ahead_bits, heavy, long, 0, all_bits(len(order)))


def nested_between(rows, heavy, long, low, high):
    """Return the bits of the nested lots from behind one to another one.

    At the mean of what lies between, both weigh the same. They are neighbours
    unless a lot between them weighs more; the least such lot is nested, too.
    """
    between = spots(high & ~low)
    above = sum([heavy[k] for k in between])
    below = sum([long[k] for k in between])
    numbers = [below * heavy[k] - above * long[k] if k in between else 0 for k in range(len(rows))]
    least, _ = heaviest_ends([row & high & ~low for row in rows], numbers)
    if least == 0:
        return [high]
    middle = low | least
    return nested_between(rows, heavy, long, low, middle) + nested_between(rows, heavy, long, middle, high)
