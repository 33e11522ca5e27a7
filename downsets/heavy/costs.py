"""Cheapest line-ups, tables that bar cheaper ones, and ladders that they go along."""

from downsets.back.lattices import is_part
from downsets.base.checks import all_bits, bits_of, has_just_keys, is_lot_of, is_within, lot_of, spots
from downsets.base.lots import bare_bits, closed_bits, closed_lots, is_closed
from downsets.base.orders import need_order
from downsets.base.words import is_whole
from downsets.errors import InvalidLot, InvalidOperation
from downsets.heavy.fractions import need_lengths, need_weighed, nested_lots
from downsets.heavy.weights import number_row
from downsets.ways.lineups import is_lineup, need_lineup


def ends(order, lengths, lineup):
    """Return the dict from the places to their ends in a line-up."""
    need_order(order)
    need_lengths(order, lengths)
    need_lineup(order, lineup)
    return ends_in(lengths, lineup)


def cost(order, weights, lengths, lineup):
    """Return the sum of the weights of the places, multiplied by their ends."""
    need_weighed(order, weights, lengths)
    need_lineup(order, lineup)
    return cost_in(weights, lengths, lineup)


def least_cost(order, weights, lengths):
    """Return the least cost of all line-ups."""
    need_weighed(order, weights, lengths)
    return least_costs(order, weights, lengths, closed_bits(order))[all_bits(len(order))]


def cheapest_lineup(order, weights, lengths):
    """Return a line-up with the least cost."""
    need_weighed(order, weights, lengths)
    return cheapest_through(order, weights, lengths, closed_bits(order))


def cost_paper(order, weights, lengths):
    """Return a paper with a cheapest line-up, and values of all closed lots that bar cheaper ones."""
    need_weighed(order, weights, lengths)
    closed = closed_bits(order)
    costs = least_costs(order, weights, lengths, closed)
    lots = sorted([(lot_of(order.places, bits), bits) for bits in closed])
    return ("table", cheapest_through(order, weights, lengths, closed), {lot: costs[bits] for lot, bits in lots})


def is_cost_paper(order, weights, lengths, value):
    """Tell whether a value is a cost paper."""
    need_weighed(order, weights, lengths)
    lots = closed_lots(order)
    if not isinstance(value, tuple) or len(value) != 3:
        return False
    word, lineup, values = value
    if word != "table" or not is_lineup(order, lineup) or not has_just_keys(lots, values):
        return False
    if not all([is_whole(values[lot]) for lot in lots]) or values[()] != 0:
        return False
    if values[order.places] != cost_in(weights, lengths, lineup):
        return False
    costs = {bits_of(order.places, lot): values[lot] for lot in lots}
    return all([costs[bits] <= most for bits in costs for most, _ in steps_up(order, weights, lengths, costs, bits)])


def ladder(order, weights, lengths):
    """Return a ladder: the nested lots, without the first one."""
    need_weighed(order, weights, lengths)
    # The nested lots are found without this walk, which only bars orders with
    # too many closed lots.
    closed_bits(order)
    return nested_lots(order, weights, lengths)[1:]


def is_ladder(order, weights, lengths, value):
    """Tell whether a value is a ladder."""
    need_weighed(order, weights, lengths)
    return is_ladder_of(order, weights, lengths, closed_bits(order), value)


def does_go_along(order, lineup, lots):
    """Tell whether a line-up begins with the places of each of some lots."""
    need_lineup(order, lineup)
    if not isinstance(lots, tuple) or not all([is_lot_of(order.places, lot) for lot in lots]):
        raise InvalidLot("no tuple of lots of the order")
    return all([sorted(lineup[:len(lot)]) == list(lot) for lot in lots])


def cheapest_along(order, weights, lengths, lots):
    """Return a cheapest line-up that goes along a ladder."""
    need_weighed(order, weights, lengths)
    closed = closed_bits(order)
    if not is_ladder_of(order, weights, lengths, closed, lots):
        raise InvalidOperation("no ladder")
    rungs = [bits_of(order.places, lot) for lot in lots]
    passed = [bits for bits in closed if all([is_within(bits, rung) or is_within(rung, bits) for rung in rungs])]
    return cheapest_through(order, weights, lengths, passed)


def ends_in(lengths, lineup):
    """Return the ascending dict from the places of a line-up to their ends."""
    found = {}
    end = 0
    for place in lineup:
        end = end + lengths[place]
        found[place] = end
    return {place: found[place] for place in sorted(found)}


def cost_in(weights, lengths, lineup):
    """Return the cost of a line-up."""
    found = ends_in(lengths, lineup)
    return sum([weights[place] * found[place] for place in lineup])


def steps_up(order, weights, lengths, costs, bits):
    """Return pairs (cost, index) for the tops of a closed lot that can come last in it.

    The cost is that of the lot without the top, as a table tells it, and of the
    top at the end of the lot; a lot that the table lacks cannot be passed.
    """
    end = sum([lengths[order.places[k]] for k in spots(bits)])
    last = [k for k in spots(bare_bits(order.behind_bits, bits)) if bits ^ (1 << k) in costs]
    return [(costs[bits ^ (1 << k)] + weights[order.places[k]] * end, k) for k in last]


def least_costs(order, weights, lengths, passed):
    """Return the dict from the bits of the closed lots that can be passed to the least costs up to them."""
    costs = {0: 0}
    for bits in passed[1:]:
        costs[bits] = min([most for most, _ in steps_up(order, weights, lengths, costs, bits)])
    return costs


def cheapest_through(order, weights, lengths, passed):
    """Return a cheapest line-up of those that pass by some closed lots only."""
    costs = least_costs(order, weights, lengths, passed)
    bits = all_bits(len(order))
    row = []
    while bits:
        _, last = min(steps_up(order, weights, lengths, costs, bits))
        row.append(order.places[last])
        bits = bits ^ (1 << last)
    return tuple(row[::-1])


def is_ladder_of(order, weights, lengths, closed, value):
    """Tell whether a value is a ladder, given the bits of all closed lots."""
    if not isinstance(value, tuple) or not all([is_closed(order, lot) for lot in value]):
        return False
    rungs = [0] + [bits_of(order.places, lot) for lot in value]
    if rungs[-1] != all_bits(len(order)):
        return False
    if not all([is_part(rungs[k], rungs[k + 1]) for k in range(len(rungs) - 1)]):
        return False
    weighed = weighed_lots(order, weights, lengths, closed)
    return all([has_greatest_gain(weighed, rungs[k], rungs[k + 1]) for k in range(len(rungs) - 1)])


def weighed_lots(order, weights, lengths, closed):
    """Return the dict from the bits of closed lots to pairs of their weights and lengths."""
    heavy = number_row(order, weights)
    long = number_row(order, lengths)
    return {bits: (sum([heavy[k] for k in spots(bits)]), sum([long[k] for k in spots(bits)])) for bits in closed}


def has_greatest_gain(weighed, low, high):
    """Tell whether no closed lot has a greater gain from a lot than another one has."""
    start = weighed[low]
    above, below = weighed[high][0] - start[0], weighed[high][1] - start[1]
    return all([
        (weighed[bits][0] - start[0]) * below <= above * (weighed[bits][1] - start[1])
        for bits in weighed if is_part(low, bits)
    ])
