"""Orders of stretches: places laid on a line, each as long as its stretch."""

from downsets.base.checks import are_parts, has_just_keys, is_place_of, is_within, lot_of, need_many, spots
from downsets.base.lots import next_spots
from downsets.base.orders import MAX_PLACES, made, need_order
from downsets.base.words import is_place, is_whole
from downsets.errors import InvalidOperation

MAX_END = 999999999999


def is_laying(order, value):
    """Tell whether a value is a laying of the order."""
    need_order(order)
    if not has_just_keys(order.places, value) or not are_stretches(value):
        return False
    return pairs_of_laying(value) == order.pairs


def laying_paper(order):
    """Return a paper with a laying, or with a two-and-two that bars one."""
    need_order(order)
    two = first_two_and_two(order)
    if two is None:
        return ("laying", least_laying(order))
    return ("two", two)


def is_laying_paper(order, value):
    """Tell whether a value is a laying paper of the order."""
    need_order(order)
    if not isinstance(value, tuple) or len(value) != 2:
        return False
    word, told = value
    if word == "laying":
        return is_laying(order, told)
    return word == "two" and is_two_and_two(order, told)


def least_laying(order):
    """Return the laying that has only the numbers from 1 to the end number."""
    need_stretches(order)
    aheads = different_sizes(order.ahead_bits)
    behinds = different_sizes(order.behind_bits)
    laying = {}
    for k in range(len(order)):
        early = len(spots(order.ahead_bits[k]))
        late = len(spots(order.behind_bits[k]))
        begin = len([size for size in aheads if size <= early])
        end = len([size for size in behinds if size >= late])
        laying[order.places[k]] = (begin, end)
    return laying


def end_number(order):
    """Return how many different lots ahead there are."""
    need_stretches(order)
    return len(different_sizes(order.ahead_bits))


def full_flat_lots(order):
    """Return the flat lots that no other flat lot has as a part, as they stand on the line."""
    laying = least_laying(order)
    marks = range(1, end_number(order) + 1)
    return tuple([
        tuple([place for place in order if laying[place][0] <= mark <= laying[place][1]]) for mark in marks
    ])


def order_of_stretches(laying):
    """Return the order that has a laying."""
    if not isinstance(laying, dict) or not 1 <= len(laying) <= MAX_PLACES:
        raise InvalidOperation("no dict from one to seven places")
    if not all([is_place(place) for place in laying]) or not are_stretches(laying):
        raise InvalidOperation("no dict from places to stretches")
    return made(list(laying), pairs_of_laying(laying))


def is_crew_rows(order, many, value):
    """Tell whether a value is rows of the order for so many workers."""
    need_order(order)
    need_many(many)
    return are_crew_rows(order, many, value)


def stretch_rows(order, many):
    """Return rows for so many workers, as few as can be."""
    need_order(order)
    need_many(many)
    need_stretches(order)
    rows = []
    done = 0
    while len(spots(done)) < len(order):
        row = next_row(order, many, done)
        rows.append(lot_of(order.places, row))
        done = done | row
    return tuple(rows)


def is_stretch_rows(order, many, value):
    """Tell whether a value is rows for so many workers, as few as can be."""
    fewest = len(stretch_rows(order, many))
    return are_crew_rows(order, many, value) and len(value) == fewest


def need_stretches(order):
    """Refuse what is no order of stretches."""
    need_order(order)
    if first_two_and_two(order) is not None:
        raise InvalidOperation("no order of stretches")


def are_stretches(laying):
    """Tell whether all values of a dict are stretches."""
    return all([is_stretch(value) for value in list(laying.values())])


def is_stretch(value):
    """Tell whether a value is a pair of integers of at most twelve digits, the begin and the end."""
    if not isinstance(value, tuple) or len(value) != 2:
        return False
    begin, end = value
    return is_whole(begin) and is_whole(end) and -MAX_END <= begin <= end <= MAX_END


def pairs_of_laying(laying):
    """Return the pairs of places of which the first one ends before the other one begins."""
    names = sorted(laying)
    return tuple([(one, other) for one in names for other in names if laying[one][1] < laying[other][0]])


def different_sizes(rows):
    """Return the numbers of places of the different rows.

    In an order of stretches each row is within each greater one, so that
    different rows have different sizes.
    """
    return sorted(set([len(spots(row)) for row in rows]))


def first_two_and_two(order):
    """Return a two-and-two, or None."""
    ahead = order.ahead_bits
    for b in range(len(order)):
        for d in range(len(order)):
            if not is_within(ahead[b], ahead[d]) and not is_within(ahead[d], ahead[b]):
                a = spots(ahead[b] & ~ahead[d])[0]
                c = spots(ahead[d] & ~ahead[b])[0]
                return tuple([order.places[k] for k in (a, b, c, d)])
    return None


def is_two_and_two(order, value):
    """Tell whether a value is a two-and-two of the order."""
    if not isinstance(value, tuple) or len(value) != 4:
        return False
    if not all([is_place_of(order.places, place) for place in value]):
        return False
    a, b, c, d = value
    stands = a in order.ahead(b) and c in order.ahead(d)
    return stands and a not in order.ahead(d) and c not in order.ahead(b)


def are_crew_rows(order, many, value):
    """Tell whether a value is rows of the order, with at most so many places each."""
    if not are_parts(order.places, value):
        return False
    if not all([len(lot) <= many for lot in value]):
        return False
    at = {place: k for k in range(len(value)) for place in value[k]}
    return all([at[one] < at[other] for one, other in order.pairs])


def next_row(order, many, done):
    """Return the bits of the places that can come, those with most places behind them first."""
    coming = next_spots(order, done)
    ranked = sorted([(-len(spots(order.behind_bits[k])), k) for k in coming])
    return sum([1 << k for _, k in ranked[:many]])
