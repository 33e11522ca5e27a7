"""Line-ups with few jumps, greedy line-ups, and line-ups in time."""

from downsets.base.checks import all_bits, are_numbers, has_just_keys, lot_of, spots, sum_over
from downsets.base.lots import MAX_CLOSED, bare_bits, beside_bits, closed_bits, lined_spots
from downsets.base.orders import need_order, step_rows
from downsets.base.words import is_whole
from downsets.errors import InvalidNumber, InvalidOperation, TooMany
from downsets.heavy.costs import ends_in
from downsets.heavy.fractions import need_lengths
from downsets.ways.lineups import coming, is_lineup, need_lineup

MAX_TIME = 1000000


def jumps(order, lineup):
    """Return the positions of a line-up whose place is beside the next one, ascending."""
    need_lineup(order, lineup)
    return tuple([k + 1 for k in range(len(lineup) - 1) if order.is_beside(lineup[k], lineup[k + 1])])


def jump_number(order):
    """Return the fewest jumps that a line-up has."""
    return len(jumps(order, jump_lineup(order)))


def jump_lineup(order):
    """Return a line-up with as few jumps as can be."""
    need_order(order)
    return jumping_least(order, least_jumps(order, closed_bits(order)))


def jump_paper(order):
    """Return a paper with a line-up, and values of closed lots and their tops that bar fewer jumps."""
    need_order(order)
    table = least_jumps(order, closed_bits(order))
    values = {(lot_of(order.places, bits), order.places[k]): table[(bits, k)] for bits, k in table}
    return ("table", jumping_least(order, table), {key: values[key] for key in sorted(values)})


def is_jump_paper(order, value):
    """Tell whether a value is a jump paper of the order."""
    need_order(order)
    duos = lots_and_tops(order, closed_bits(order))
    if not isinstance(value, tuple) or len(value) != 3:
        return False
    word, lineup, values = value
    keys = [(lot_of(order.places, bits), order.places[k]) for bits, k in duos]
    if word != "table" or not is_lineup(order, lineup) or not has_just_keys(keys, values):
        return False
    if not all([is_whole(values[key]) for key in keys]):
        return False
    table = {duos[k]: values[keys[k]] for k in range(len(duos))}
    most = len(jumps(order, lineup))
    whole = all_bits(len(order))
    if not all([table[(bits, k)] >= most for bits, k in duos if bits == whole]):
        return False
    return all([table[duo] <= bound for duo in duos for bound, _ in jumps_up(order, table, duo)])


def is_greedy(order, lineup):
    """Tell whether a line-up is greedy."""
    need_lineup(order, lineup)
    return all([lineup[k] in greedy_places(order, lineup[:k]) for k in range(len(lineup))])


def greedy_lineups(order):
    """Generate all greedy line-ups, ascending."""
    need_order(order)
    yield from greedy_rows(order, ())


def zigzag(order):
    """Return a zigzag, or None."""
    need_order(order)
    up = step_rows(order.behind_bits)
    down = step_rows(order.ahead_bits)
    for b in range(len(order)):
        for c in spots(up[b]):
            for a in spots(down[c]):
                for d in spots(up[b] & ~order.behind_bits[a]):
                    return tuple([order.places[k] for k in (a, b, c, d)])
    return None


def is_zigzag(order, value):
    """Tell whether a value is a zigzag of the order."""
    need_order(order)
    if not isinstance(value, tuple) or len(value) != 4:
        return False
    a, b, c, d = value
    return all([step in order.steps for step in ((a, c), (b, c), (b, d))]) and (a, d) not in order.pairs


def is_in_time(order, lengths, deadlines, lineup):
    """Tell whether each place of a line-up ends at its deadline or earlier."""
    need_timed(order, lengths, deadlines)
    need_lineup(order, lineup)
    return does_keep(lengths, deadlines, lineup)


def due_by(order, deadlines, time):
    """Return the closure of the places with deadlines up to a time."""
    need_order(order)
    need_deadlines(order, deadlines)
    if not is_whole(time) or not 0 <= time <= MAX_TIME:
        raise InvalidNumber(time)
    return due_lot(order, deadlines, time)


def time_paper(order, lengths, deadlines):
    """Return a paper with a line-up in time, or with a time by which too much is due."""
    need_timed(order, lengths, deadlines)
    for time in sorted(set(list(deadlines.values()))):
        lot = due_lot(order, deadlines, time)
        if sum_over(lengths, lot) > time:
            return ("late", time, lot)
    return ("lineup", urgent_lineup(order, deadlines))


def is_time_paper(order, lengths, deadlines, value):
    """Tell whether a value is a time paper."""
    need_timed(order, lengths, deadlines)
    if not isinstance(value, tuple):
        return False
    if len(value) == 2:
        return value[0] == "lineup" and is_lineup(order, value[1]) and does_keep(lengths, deadlines, value[1])
    return len(value) == 3 and value[0] == "late" and is_late(order, lengths, deadlines, value[1], value[2])


def need_deadlines(order, deadlines):
    """Refuse what is no dict from just the places to deadlines."""
    if not are_numbers(order.places, deadlines) or not all([1 <= deadlines[place] <= MAX_TIME for place in order]):
        raise InvalidOperation("no dict from just the places to deadlines")


def need_timed(order, lengths, deadlines):
    """Refuse what is no order, and what are no lengths and no deadlines of its places."""
    need_order(order)
    need_lengths(order, lengths)
    need_deadlines(order, deadlines)


def lots_and_tops(order, closed):
    """Return the list of the bits of each closed lot, with the index of each of its tops, if they are not too many."""
    found = [(bits, k) for bits in closed for k in spots(bare_bits(order.behind_bits, bits))]
    if len(found) > MAX_CLOSED:
        raise TooMany(MAX_CLOSED)
    return found


def jumps_up(order, table, duo):
    """Return pairs (bound, index) of a closed lot with a top, for each top of the lot without it.

    The bound is what a table tells of the lot without the top, and a jump if
    there is one between both tops. For a lot of one place it is 0.
    """
    bits, top = duo
    less = bits ^ (1 << top)
    if less == 0:
        return [(0, None)]
    beside = beside_bits(order, top)
    return [(table[(less, k)] + ((beside >> k) & 1), k) for k in spots(bare_bits(order.behind_bits, less))]


def least_jumps(order, closed):
    """Return the dict from closed lots with tops to the least jumps of line-ups up to there."""
    table = {}
    for duo in lots_and_tops(order, closed):
        table[duo] = min([bound for bound, _ in jumps_up(order, table, duo)])
    return table


def jumping_least(order, table):
    """Return a line-up with as few jumps as a table of the least ones tells."""
    bits = all_bits(len(order))
    row = []
    _, last = min([(table[(bits, k)], k) for k in spots(bare_bits(order.behind_bits, bits))])
    while last is not None:
        row.append(order.places[last])
        _, below = min(jumps_up(order, table, (bits, last)))
        bits = bits ^ (1 << last)
        last = below
    return tuple(row[::-1])


def greedy_places(order, row):
    """Return the places that can come next in a greedy line-up, ascending."""
    found = coming(order, row)
    following = [place for place in found if row and order.is_ahead(row[-1], place)]
    return following if following else found


def greedy_rows(order, row):
    """Generate all greedy line-ups that begin with a row, ascending."""
    if len(row) == len(order):
        yield row
    for place in greedy_places(order, row):
        longer = row + (place,)
        yield from greedy_rows(order, longer)


def does_keep(lengths, deadlines, lineup):
    """Tell whether each place of a line-up ends at its deadline or earlier."""
    found = ends_in(lengths, lineup)
    return all([found[place] <= deadlines[place] for place in lineup])


def due_lot(order, deadlines, time):
    """Return the closure of the places with deadlines up to a time."""
    return order.closure(tuple([place for place in order if deadlines[place] <= time]))


def urgent_lineup(order, deadlines):
    """Return the line-up of all places by the times at which they must be done.

    A place must be done by the least deadline of itself and of those behind it.
    """
    early_first = [order.places[k] for k in lined_spots(order)]
    row = []
    for time in sorted(set(list(deadlines.values()))):
        lot = due_lot(order, deadlines, time)
        row = row + [place for place in early_first if place in lot and place not in row]
    return tuple(row)


def is_late(order, lengths, deadlines, time, lot):
    """Tell whether a lot is due by a time, and longer than this."""
    if not is_whole(time) or not 1 <= time <= MAX_TIME:
        return False
    return lot == due_lot(order, deadlines, time) and sum_over(lengths, lot) > time
