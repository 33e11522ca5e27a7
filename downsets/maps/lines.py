"""Maps of an order into a line of numbers: weak and strict ones, and how many there are."""

from math import comb

from downsets.base.checks import are_numbers, has_bit, need_many, spots
from downsets.base.lots import closed_bits, is_closed, lined_spots
from downsets.base.orders import need_order
from downsets.base.words import is_whole
from downsets.errors import InvalidNumber, InvalidOperation
from downsets.ways.lineups import need_lineup
from downsets.wide.widths import height, level_numbers

MAX_LINE = 60


def is_weak_map(order, many, value):
    """Tell whether a value is a weak map of the order into 1 .. many."""
    need_order_and_line(order, many)
    return is_map_with_gap(order, many, value, 0)


def is_strict_map(order, many, value):
    """Tell whether a value is a strict map of the order into 1 .. many."""
    need_order_and_line(order, many)
    return is_map_with_gap(order, many, value, 1)


def weak_maps(order, many):
    """Generate all weak maps into 1 .. many, ascending by their numbers."""
    need_order_and_line(order, many)
    gaps = [{at: 0 for at in spots(row)} for row in order.behind_bits]
    lows = [1] * len(order)
    highs = [many] * len(order)
    yield from maps_between(order, gaps, lows, highs)


def strict_maps(order, many):
    """Generate all strict maps into 1 .. many, ascending by their numbers."""
    need_order_and_line(order, many)
    below = level_numbers(order)
    above = level_numbers(~order)
    gaps = chain_steps(order)
    lows = [below[place] for place in order]
    highs = [many + 1 - above[place] for place in order]
    if many >= height(order):
        yield from maps_between(order, gaps, lows, highs)


def weak_number(order, number):
    """Return the number of weak maps into 1 .. number, told for any integer."""
    need_order(order)
    need_line_number(number)
    return weak_at(chain_counts(order), number)


def strict_number(order, number):
    """Return the number of strict maps into 1 .. number, told for any integer."""
    need_order(order)
    need_line_number(number)
    return strict_at(chain_counts(order), number)


def weak_chains(order):
    """Return the numbers of chains of closed lots with 0, 1, .. steps."""
    need_order(order)
    return tuple(chain_counts(order))


def strict_chains(order):
    """Return the numbers of strict chains of closed lots with 0, 1, .. steps."""
    need_order(order)
    counts = chain_counts(order)
    row = [strict_at(counts, k) for k in range(len(counts))]
    # The numbers of chains are the differences at 0 of the polynomial.
    found = []
    while row:
        found.append(row[0])
        row = [row[k + 1] - row[k] for k in range(len(row) - 1)]
    return tuple(found)


def lots_of_map(order, many, numbers):
    """Return the closed lots of the places with numbers up to 0, 1, .. many."""
    need_order_and_line(order, many)
    need_weak_map(order, many, numbers)
    return tuple([
        tuple([place for place in order if numbers[place] <= top]) for top in range(many + 1)
    ])


def map_of_lots(order, lots):
    """Return the weak map that has these lots."""
    need_order(order)
    if not are_rising(order, lots):
        raise InvalidOperation("no row of closed lots up to all places")
    return {place: len([lot for lot in lots if place not in lot]) for place in order}


def turns(order, lineup, second):
    """Return at how many places of a line-up the next one stands earlier in the second."""
    need_lineup(order, lineup)
    need_lineup(order, second)
    return turns_against(lineup, second)


def turn_numbers(order):
    """Return the numbers of line-ups with 0, 1, .. turns, up to the greatest number."""
    need_order(order)
    counts = chain_counts(order)
    row = [weak_at(counts, k + 1) for k in range(len(counts) - height(order))]
    # The series of the numbers of weak maps is that of the turns by (1 - t),
    # taken once more often than there are places.
    for _ in counts:
        row = [row[k] - (row[k - 1] if k > 0 else 0) for k in range(len(row))]
    return tuple(row)


def lineup_of_map(order, many, numbers, second):
    """Return the line-up along which a weak map goes."""
    need_order_and_line(order, many)
    need_weak_map(order, many, numbers)
    need_lineup(order, second)
    row = sorted([(numbers[second[k]], k) for k in range(len(second))])
    return tuple([second[k] for _, k in row])


def maps_along(order, many, lineup, second):
    """Return how many weak maps into 1 .. many go along a line-up."""
    need_order_and_line(order, many)
    need_lineup(order, lineup)
    need_lineup(order, second)
    return comb(many + len(order) - 1 - turns_against(lineup, second), len(order))


def need_order_and_line(order, many):
    """Refuse what is no order, and what is no number of places of a line."""
    need_order(order)
    need_many(many)
    if many > MAX_LINE:
        raise InvalidNumber(many)


def need_line_number(number):
    """Refuse what is no integer at which the numbers of maps are told."""
    if not is_whole(number) or not -MAX_LINE <= number <= MAX_LINE:
        raise InvalidNumber(number)


def need_weak_map(order, many, numbers):
    """Refuse what is no weak map into 1 .. many."""
    if not is_map_with_gap(order, many, numbers, 0):
        raise InvalidOperation("no weak map of the order into this line")


def is_map_with_gap(order, many, value, gap):
    """Tell whether a value is a map in which numbers rise by a gap along each pair."""
    if not are_numbers(order.places, value):
        return False
    if not all([1 <= value[place] <= many for place in order]):
        return False
    return all([value[one] + gap <= value[other] for one, other in order.pairs])


def are_rising(order, value):
    """Tell whether a value is a row of closed lots, each within the next one, up to all."""
    if not isinstance(value, tuple) or not 2 <= len(value) <= MAX_LINE + 1:
        return False
    if not all([is_closed(order, lot) for lot in value]):
        return False
    if len(value[0]) > 0 or value[-1] != order.places:
        return False
    return all([place in value[k + 1] for k in range(len(value) - 1) for place in value[k]])


def turns_against(lineup, second):
    """Return the number of turns of a row against a second one."""
    at = {second[k]: k for k in range(len(second))}
    return len([k for k in range(len(lineup) - 1) if at[lineup[k]] > at[lineup[k + 1]]])


def chain_steps(order):
    """Return for each place the dict from those behind it to the most steps up to them."""
    line = lined_spots(order)
    rows = []
    for k in range(len(order)):
        most = {k: 0}
        for at in line:
            if has_bit(order.behind_bits[k], at):
                most[at] = 1 + max([most[low] for low in spots(order.ahead_bits[at]) if low in most])
        del most[k]
        rows.append(most)
    return rows


def maps_between(order, gaps, lows, highs):
    """Generate all maps in which numbers rise along gaps, between bounds, ascending.

    The gaps follow from one another, so that what holds for some places can
    always be filled up.
    """
    row = filled_row(gaps, lows, [])
    while row is not None:
        yield {order.places[k]: row[k] for k in range(len(row))}
        row = row_behind(gaps, lows, highs, row)


def filled_row(gaps, lows, row):
    """Return the least row of numbers that begins with a row."""
    while len(row) < len(lows):
        at = len(row)
        row = row + [max([lows[at]] + [row[k] + gaps[k][at] for k in range(at) if at in gaps[k]])]
    return row


def row_behind(gaps, lows, highs, row):
    """Return the row of numbers behind one, or None behind the last one."""
    for at in reversed(range(len(row))):
        top = min([highs[at]] + [row[k] - gaps[at][k] for k in range(at) if k in gaps[at]])
        if row[at] < top:
            return filled_row(gaps, lows, row[:at] + [row[at] + 1])
    return None


def chain_counts(order):
    """Return the list of the numbers of chains of closed lots with 0, 1, .. steps."""
    closed = closed_bits(order)
    moves = lowering_moves(order, closed)
    counts = [1] + [0] * (len(closed) - 1)
    found = [0]
    for _ in range(len(order)):
        sums = list(counts)
        for at, low in moves:
            sums[at] = sums[at] + sums[low]
        counts = [sums[k] - counts[k] for k in range(len(sums))]
        found.append(counts[-1])
    return found


def lowering_moves(order, closed):
    """Return moves that sum up what stands at all closed lots within each one.

    A move (at, low) adds what stands at one lot to another one. For each place
    in turn, the last ones of a line-up first, it leads from a lot without this
    place and all behind it to the lot with them: what was added for places
    that are last stays, so that each lot within another is added just once.
    """
    at = {closed[k]: k for k in range(len(closed))}
    moves = []
    for k in reversed(list(lined_spots(order))):
        taken = order.behind_bits[k] | (1 << k)
        moves.extend([(at[bits], at[bits & ~taken]) for bits in closed if has_bit(bits, k)])
    return moves


def weak_at(counts, number):
    """Return the sum of the numbers of chains by the binomials of a number."""
    return sum([counts[k] * binomial(number, k) for k in range(len(counts))])


def strict_at(counts, number):
    """Return the number of strict maps, which weak ones tell at the opposite number."""
    told = weak_at(counts, -number)
    return told if len(counts) & 1 == 1 else -told


def binomial(number, many):
    """Return the binomial of any integer."""
    if number >= 0:
        return comb(number, many)
    told = comb(many - number - 1, many)
    return told if many & 1 == 0 else -told
