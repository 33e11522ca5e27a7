"""Line-ups that tell an order: two of them, or a ring that bars two, or three."""

from downsets.base.checks import has_bit, spots
from downsets.base.lots import beside_rows, next_spots
from downsets.base.orders import MAX_PLACES, are_different, is_pair, made, need_order
from downsets.errors import InvalidOperation, TooMany
from downsets.ways.lineups import filled_lineup, is_lineup

MAX_TOLD = 10
MAX_RING = 100


def common_order(rows):
    """Return the order in which those ahead in all rows are ahead."""
    if not are_rows(rows):
        raise InvalidOperation("no tuple of rows of the same places")
    return made(rows[0], common_pairs(rows))


def is_telling(order, value):
    """Tell whether a value is a telling of the order."""
    need_small(order)
    return is_telling_of(order, value)


def telling_number(order):
    """Return the least number of line-ups of a telling."""
    return len(telling(order))


def telling(order):
    """Return a telling with as few line-ups as can be."""
    need_small(order)
    if order.is_chain:
        return (filled_lineup(order, []),)
    found = first_two(order)
    return first_three(order) if found is None else found


def three_lineups(order):
    """Return a telling of three line-ups, of which some can be equal."""
    found = first_two(order)
    return first_three(order) if found is None else found + found[1:]


def forced(order, one, other):
    """Return a setting and all settings that it forces, ascending."""
    need_order(order)
    if not order.is_beside(one, other):
        raise InvalidOperation("the two places are not beside one another")
    need_few(order)
    start = (order.places.index(one), order.places.index(other))
    settings = sorted(forced_from(beside_rows(order), start))
    return tuple([(order.places[k], order.places[at]) for k, at in settings])


def two_paper(order):
    """Return a paper with a telling of two line-ups, or with a ring."""
    need_small(order)
    ring = first_ring(order)
    if ring is None:
        return ("lineups", first_two(order))
    return ("ring", ring)


def is_two_paper(order, value):
    """Tell whether a value is a paper of two line-ups."""
    need_small(order)
    if not isinstance(value, tuple) or len(value) != 2:
        return False
    word, told = value
    if word == "lineups":
        return is_telling_of(order, told) and len(told) == 2
    return word == "ring" and is_ring(order, told)


def two_tellings(order):
    """Generate all tellings of two line-ups, ascending."""
    need_small(order)
    beside = beside_rows(order)
    for row in first_rows(order, beside, ()):
        first = tuple([order.places[k] for k in row])
        yield (first, second_lineup(order, beside, row))


def two_number(order):
    """Return how many tellings of two line-ups there are."""
    return len(list(two_tellings(order)))


def crossing(order, lineups):
    """Return the order of the places beside one another, as the first line-up has them."""
    need_order(order)
    if not is_telling_of(order, lineups) or len(lineups) != 2:
        raise InvalidOperation("no telling of two line-ups")
    need_few(order)
    first, second = lineups
    return made(first, common_pairs((first, second[::-1])))


def need_small(order):
    """Refuse what is no order with at most seven places."""
    need_order(order)
    need_few(order)


def need_few(order):
    """Refuse an order with more than seven places."""
    if len(order) > MAX_PLACES:
        raise TooMany(MAX_PLACES)


def are_rows(value):
    """Tell whether a value is a tuple of few rows of the same places."""
    if not isinstance(value, tuple) or not 1 <= len(value) <= MAX_TOLD:
        return False
    if not all([isinstance(row, tuple) and are_different(row) for row in value]):
        return False
    if not 1 <= len(value[0]) <= MAX_PLACES:
        return False
    return all([sorted(row) == sorted(value[0]) for row in value])


def common_pairs(rows):
    """Return the pairs of places of which the one stands ahead of the other in all rows."""
    places = sorted(rows[0])
    at = [{row[k]: k for k in range(len(row))} for row in rows]
    return tuple([
        (one, other) for one in places for other in places
        if all([spot[one] < spot[other] for spot in at])
    ])


def is_telling_of(order, value):
    """Tell whether a value is a telling of an order with any number of places."""
    if not isinstance(value, tuple) or not 1 <= len(value) <= MAX_TOLD:
        return False
    if not all([is_lineup(order, row) for row in value]):
        return False
    return common_pairs(value) == order.pairs


def first_two(order):
    """Return a telling of two line-ups, or None."""
    for found in two_tellings(order):
        return found
    return None


def first_three(order):
    """Return a telling of three line-ups, which at most seven places always have."""
    orders = three_orders([order] * 3, tight_settings(order))
    return tuple([filled_lineup(wider, []) for wider in orders])


def first_rows(order, beside, row):
    """Generate all line-ups that begin with a row and can be the first of two, as indices."""
    if len(row) == len(order):
        yield row
    for k in next_spots(order, sum([1 << at for at in row])):
        if does_fit(order, beside, row, k):
            longer = row + (k,)
            yield from first_rows(order, beside, longer)


def does_fit(order, beside, row, last):
    """Tell whether a place can stand next in the first of two line-ups.

    In the second one all beside places are turned round. So nothing stands in
    the first one between a place and one behind it that is beside them both.
    """
    early = 0
    for k in row:
        if has_bit(beside[last], k) and early & order.ahead_bits[last] & beside[k] != 0:
            return False
        early = early | (1 << k)
    return True


def second_lineup(order, beside, row):
    """Return the line-up in which all beside places stand as they do not in a row."""
    late = 0
    ranks = []
    for k in reversed(list(row)):
        ahead = order.ahead_bits[k] | (beside[k] & late)
        ranks.append((len(spots(ahead)), k))
        late = late | (1 << k)
    return tuple([order.places[k] for _, k in sorted(ranks)])


def tight_settings(order):
    """Return the settings that each telling must have, and that bring all others.

    All places ahead of the other one are ahead of the one, and all behind the
    one are behind the other, so that no setting but itself brings such a one.
    """
    found = []
    for one in order:
        for other in order:
            if one != other and order.is_beside(one, other) and is_tight(order, one, other):
                found.append((one, other))
    return found


def is_tight(order, one, other):
    """Tell whether no setting but itself brings a setting."""
    early = all([place in order.ahead(one) for place in order.ahead(other)])
    return early and all([place in order.behind(other) for place in order.behind(one)])


def three_orders(orders, settings):
    """Return three orders, made by more pairs, that have each setting in one of them.

    Settings are put in one after another; None if this way leads to no end.
    """
    left = [setting for setting in settings if not any([setting in order.pairs for order in orders])]
    if not left:
        return orders
    one, other = left[0]
    for k in range(len(orders)):
        if not orders[k].is_ahead(other, one):
            wider = orders[:k] + [orders[k].with_pair(one, other)] + orders[k + 1:]
            found = three_orders(wider, left)
            if found is not None:
                return found
    return None


def directly_forced(beside, setting):
    """Return the settings that a setting forces directly, as pairs of indices."""
    one, other = setting
    near = spots(beside[one] & ~beside[other] & ~(1 << other))
    far = spots(beside[other] & ~beside[one] & ~(1 << one))
    return [(one, k) for k in near] + [(k, other) for k in far]


def forced_from(beside, start):
    """Return the dict from a setting and all that it forces to the one ahead of each."""
    reached = {start: None}
    edge = [start]
    while edge:
        found = []
        for setting in list(edge):
            for following in directly_forced(beside, setting):
                if following not in reached:
                    reached[following] = setting
                    found.append(following)
        edge = list(found)
    return reached


def first_ring(order):
    """Return a ring, or None if no setting forces the opposite one."""
    beside = beside_rows(order)
    for one in range(len(order)):
        for other in spots(beside[one]):
            reached = forced_from(beside, (one, other))
            if (other, one) in reached:
                return ring_back(order, reached, (other, one))
    return None


def ring_back(order, reached, last):
    """Return the settings that led to the last one, from the first one on."""
    ring = []
    setting = last
    while setting is not None:
        ring.append((order.places[setting[0]], order.places[setting[1]]))
        setting = reached[setting]
    return tuple(ring[::-1])


def is_ring(order, value):
    """Tell whether a value is a ring of the order."""
    if not isinstance(value, tuple) or not 2 <= len(value) <= MAX_RING:
        return False
    if not all([is_setting(order, setting) for setting in value]):
        return False
    places = order.places
    ring = [(places.index(one), places.index(other)) for one, other in value]
    if ring[-1] != (ring[0][1], ring[0][0]):
        return False
    beside = beside_rows(order)
    return all([ring[k + 1] in directly_forced(beside, ring[k]) for k in range(len(ring) - 1)])


def is_setting(order, value):
    """Tell whether a value is a pair of places beside one another."""
    return is_pair(order.places, value) and order.is_beside(value[0], value[1])
