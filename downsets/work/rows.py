"""Rows of places for two workers: as few as can be, and bars of fewer rows.

The fewest rows are those to which a line-up by ranks leads. Ranks are given
from the tops on: of the places that all steps up from lead to ranked ones, the
next rank goes to one for which the ranks of these, the greatest one first, come
first in Python's order.
"""

from downsets.base.checks import is_lot_of, is_within, lot_of, spots
from downsets.base.lots import next_spots
from downsets.base.orders import is_pair, need_order, step_rows
from downsets.errors import InvalidOperation
from downsets.parts.stretches import are_crew_rows
from downsets.ways.lineups import need_lineup


def is_rows(order, value):
    """Tell whether a value is rows of the order for two workers."""
    need_order(order)
    return are_crew_rows(order, 2, value)


def fewest_rows(order):
    """Return the least number of rows."""
    return len(rows_of(order))


def rows_of(order):
    """Return rows, as few as can be."""
    need_order(order)
    return named_rows(order, taken_rows(order, ranked_line(order)))


def rows_along(order, lineup):
    """Return the rows to which a line-up leads."""
    need_lineup(order, lineup)
    return named_rows(order, taken_rows(order, [order.places.index(place) for place in lineup]))


def lineup_along(order, rows):
    """Return the line-up that goes row by row."""
    need_rows(order, rows)
    return tuple([place for lot in rows for place in lot])


def idle(order, rows):
    """Return how many rows have one place."""
    need_rows(order, rows)
    return len([lot for lot in rows if len(lot) == 1])


def is_matching(order, value):
    """Tell whether a value is a matching."""
    need_order(order)
    if not isinstance(value, tuple) or not all([is_duo(order, duo) for duo in value]):
        return False
    if not all([value[k] < value[k + 1] for k in range(len(value) - 1)]):
        return False
    return len(set([place for duo in value for place in duo])) == 2 * len(value)


def greatest_matching(order):
    """Return a matching with as many pairs as there can be: those of the fewest rows."""
    return tuple(sorted([lot for lot in rows_of(order) if len(lot) == 2]))


def is_bar(order, value):
    """Tell whether a value is a bar."""
    need_order(order)
    if not isinstance(value, tuple) or not all([is_lot_of(order.places, lot) and len(lot) > 0 for lot in value]):
        return False
    return all([is_all_ahead(order, value[k], value[k + 1]) for k in range(len(value) - 1)])


def bar_number(order, lots):
    """Return the sum of the halves of the sizes of the lots of a bar, each rounded up."""
    if not is_bar(order, lots):
        raise InvalidOperation("no bar")
    return sum([(len(lot) + 1) // 2 for lot in lots])


def rows_paper(order):
    """Return a paper with rows, as few as can be, and a bar of fewer ones."""
    need_order(order)
    line = ranked_line(order)
    taken = taken_rows(order, line)
    return ("rows", named_rows(order, taken), named_rows(order, barring_lots(line, taken)))


def is_rows_paper(order, value):
    """Tell whether a value is a rows paper."""
    need_order(order)
    if not isinstance(value, tuple) or len(value) != 3:
        return False
    word, rows, lots = value
    if word != "rows" or not is_rows(order, rows) or not is_bar(order, lots):
        return False
    return len(rows) == bar_number(order, lots)


def need_rows(order, rows):
    """Refuse what is no order, and what is no rows of it."""
    if not is_rows(order, rows):
        raise InvalidOperation("no rows of the order")


def is_duo(order, value):
    """Tell whether a value is a pair of places beside one another, the lesser one first."""
    return is_pair(order.places, value) and value[0] < value[1] and order.is_beside(value[0], value[1])


def is_all_ahead(order, lot, second):
    """Tell whether each place of a lot is ahead of each place of a second one."""
    return all([other in order.behind(one) for one in lot for other in second])


def named_rows(order, rows):
    """Return the lots of the places whose indices stand in rows."""
    return tuple([lot_of(order.places, sum([1 << k for k in row])) for row in rows])


def ranked_line(order):
    """Return the indices of the places by their ranks, the greatest one first."""
    steps = step_rows(order.behind_bits)
    ranks = {}
    while len(ranks) < len(order):
        ranked = sum([1 << k for k in ranks])
        open_spots = [k for k in range(len(order)) if k not in ranks and is_within(steps[k], ranked)]
        _, least = min([(sorted([ranks[at] for at in spots(steps[k])], reverse=True), k) for k in open_spots])
        ranks[least] = len(ranks)
    return list(ranks)[::-1]


def taken_rows(order, line):
    """Return the rows to which a line of indices leads, each as the line takes it."""
    rows = []
    done = 0
    while len(spots(done)) < len(line):
        coming = next_spots(order, done)
        row = [k for k in line if k in coming][:2]
        rows.append(row)
        done = done | sum([1 << k for k in row])
    return rows


def barring_lots(line, taken):
    """Return a bar of fewer rows than those to which the line by ranks leads.

    It is found from the last row back. A lot begins behind the last row that
    has no place beside its first one, or one that stands later in the line than
    the first place of the row at which the lot ends. Such a place, which only
    fills up its row, is in no lot.
    """
    at = {line[k]: k for k in range(len(line))}
    lots = []
    lot = []
    last = taken[-1][0]
    for row in reversed(list(taken)):
        if lot and (len(row) == 1 or at[row[1]] > at[last]):
            lots.append(lot)
            lot = []
            last = row[0]
        lot = lot + (row if lot else row[:1])
    return [lot] + lots[::-1]
