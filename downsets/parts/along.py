"""Heaviest flat lots and chains, and facts of an order along the tree of its nodes."""

from downsets.base.checks import are_numbers, is_lot_of, lot_of, spots, sum_over
from downsets.base.lots import closed_number, is_chain, is_flat, lined_spots
from downsets.base.orders import MAX_PLACES, made, need_order
from downsets.base.words import is_whole
from downsets.errors import InvalidLineup, InvalidOperation, TooMany
from downsets.lines.two import telling_number, two_number
from downsets.parts.like import is_like, like_tree
from downsets.ways.lineups import is_lineup, lineup_number
from downsets.wide.flows import flat_and_chains
from downsets.wide.widths import height, width

FACTS = ("closed", "height", "jumps", "lines", "lineups", "pairs", "width")
MAX_WEIGHT = 1000


def heaviest_flat(order, weights):
    """Return the greatest weight of a flat lot, such a lot, and the values of chains that bar more."""
    need_order_and_weights(order, weights)
    bits, chains = flat_and_chains(order, [weights[place] for place in order])
    lot = lot_of(order.places, bits)
    return (sum_over(weights, lot), lot, valued_lots(order, chains))


def heaviest_chain(order, weights):
    """Return the greatest weight of a chain, such a lot, and the values of flat lots that bar more."""
    need_order_and_weights(order, weights)
    ends = chain_weights(order, weights)
    lot = lot_of(order.places, heaviest_below(order, weights, ends))
    return (sum_over(weights, lot), lot, valued_lots(order, flats_between(order, weights, ends)))


def is_heaviest_flat(order, weights, value):
    """Tell whether a value is a heaviest flat lot with its weight and the values of chains."""
    need_order_and_weights(order, weights)
    if not is_weighed(order, weights, value):
        return False
    return is_flat(order, value[1]) and all([is_chain(order, lot) for lot in value[2]])


def is_heaviest_chain(order, weights, value):
    """Tell whether a value is a heaviest chain with its weight and the values of flat lots."""
    need_order_and_weights(order, weights)
    if not is_weighed(order, weights, value):
        return False
    return is_chain(order, value[1]) and all([is_flat(order, lot) for lot in value[2]])


def in_row(order, row):
    """Return the order in which a like lot is made a chain."""
    need_order(order)
    if not is_row_of_like(order, row):
        raise InvalidLineup("no line-up within a like lot")
    pairs = [(row[k], row[at]) for k in range(len(row)) for at in range(k + 1, len(row))]
    return made(order.places, order.pairs + tuple(pairs))


def along(order, fact):
    """Return the dict from all nodes of the order to a fact of the order within each."""
    need_order(order)
    if fact not in FACTS:
        raise InvalidOperation("no word for a fact")
    if len(order) > MAX_PLACES:
        raise TooMany(MAX_PLACES)
    tree = like_tree(order)
    nodes = sorted(list(tree) + [(place,) for place in order])
    if fact == "jumps":
        return jumps_along(tree, nodes)
    return {lot: fact_of(order.within(lot), fact) for lot in nodes}


def need_order_and_weights(order, weights):
    """Refuse what is no order, and what are no weights of its places."""
    need_order(order)
    if not are_numbers(order.places, weights) or not all([1 <= weights[place] <= MAX_WEIGHT for place in order]):
        raise InvalidOperation("no dict from just the places to weights")


def valued_lots(order, values):
    """Return the ascending dict of lots to values, made of one of bits."""
    lots = sorted([(lot_of(order.places, bits), bits) for bits in values])
    return {lot: values[bits] for lot, bits in lots}


def chain_weights(order, weights):
    """Return for each place the greatest weight of a chain with it as its only top."""
    ends = [0] * len(order)
    for k in lined_spots(order):
        below = [ends[at] for at in spots(order.ahead_bits[k])]
        ends[k] = weights[order.places[k]] + max([0] + below)
    return ends


def heaviest_below(order, weights, ends):
    """Return the bits of a heaviest chain, from its top down."""
    at = ends.index(max(ends))
    bits = 1 << at
    left = ends[at] - weights[order.places[at]]
    while left > 0:
        at = [k for k in spots(order.ahead_bits[at]) if ends[k] == left][0]
        bits = bits | (1 << at)
        left = ends[at] - weights[order.places[at]]
    return bits


def flats_between(order, weights, ends):
    """Return the dict from the bits of flat lots to values that sum to each weight.

    Each place lies on a line from the end of a heaviest chain below it to its
    own end, which is no later than the begin of each place behind it. So what
    lies over a spot of the line is flat, and something lies over each spot.
    """
    begins = [ends[k] - weights[order.places[k]] for k in range(len(ends))]
    marks = sorted(set(begins + ends))
    values = {}
    for k in range(len(marks) - 1):
        over = [at for at in range(len(ends)) if begins[at] <= marks[k] < ends[at]]
        bits = sum([1 << at for at in over])
        values[bits] = values.get(bits, 0) + marks[k + 1] - marks[k]
    return values


def is_weighed(order, weights, value):
    """Tell whether a value is a weight, a lot with it, and values of lots that sum to it."""
    if not isinstance(value, tuple) or len(value) != 3:
        return False
    weight, lot, values = value
    if not is_whole(weight) or not is_lot_of(order.places, lot) or weight != sum_over(weights, lot):
        return False
    return are_values(order, values) and do_sum_up(weights, weight, values)


def are_values(order, value):
    """Tell whether a value is a dict from lots that are not empty to integers of at least 1."""
    if not isinstance(value, dict):
        return False
    if not all([is_lot_of(order.places, lot) and len(lot) > 0 for lot in value]):
        return False
    return all([is_whole(many) and many >= 1 for many in list(value.values())])


def do_sum_up(weights, weight, values):
    """Tell whether values sum to a weight, and to that of each place over the lots with it."""
    sums = {place: 0 for place in weights}
    for lot in values:
        for place in lot:
            sums[place] = sums[place] + values[lot]
    return sum(list(values.values())) == weight and sums == weights


def is_row_of_like(order, value):
    """Tell whether a value is a line-up of the order within a like lot."""
    if not isinstance(value, tuple) or not all([isinstance(place, str) for place in value]):
        return False
    lot = tuple(sorted(value))
    return is_like(order, lot) and is_lineup(order.within(lot), value)


def fact_of(order, fact):
    """Return a fact of an order, but for its jumps."""
    if fact == "closed":
        return closed_number(order)
    if fact == "height":
        return height(order)
    if fact == "lines":
        return telling_number(order)
    if fact == "lineups":
        return lineup_number(order)
    if fact == "pairs":
        return two_number(order)
    return width(order)


def jumps_along(tree, nodes):
    """Return the dict from all nodes to the fewest jumps, or None where these are not told."""
    found = {}
    for _, lot in sorted([(len(lot), lot) for lot in nodes]):
        found[lot] = jumps_of(tree, found, lot)
    return {lot: found[lot] for lot in nodes}


def jumps_of(tree, found, lot):
    """Return the fewest jumps of a node by those of its parts, or None."""
    if lot not in tree:
        return 0
    shape, parts = tree[lot]
    jumps = [found[part] for part in parts]
    if shape == "prime" or None in jumps:
        return None
    return sum(jumps) + (len(parts) - 1 if shape == "beside" else 0)
