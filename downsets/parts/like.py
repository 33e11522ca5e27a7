"""Like lots: parts of an order that look alike from outside, and their tree."""

from downsets.base.checks import all_bits, bits_of, has_bit, is_lot_of, is_place_of, is_within, lot_of, need_lot
from downsets.base.checks import need_place, spots
from downsets.base.lots import beside_rows, checked_bits, closed_bits
from downsets.base.orders import MAX_PLACES, Order, beyond, crossed, made, need_order
from downsets.errors import InvalidLot, InvalidOrder

SHAPES = ("beside", "behind", "prime")


def is_like(order, value):
    """Tell whether a value is a like lot."""
    need_order(order)
    if not is_lot_of(order.places, value) or len(value) == 0:
        return False
    return unlike_bits(order, bits_of(order.places, value)) == 0


def like_lots(order):
    """Return all like lots, ascending."""
    need_order(order)
    # Parts beside one another have as many unions as they have closed lots at
    # least, so that this walk bars what would be too much to tell.
    closed_bits(order)
    marks = {1 << k: True for k in range(len(order))}
    tree = like_tree(order)
    for lot in tree:
        marks[bits_of(order.places, lot)] = True
        shape, parts = tree[lot]
        for bits in unions(shape, [bits_of(order.places, part) for part in parts]):
            marks[bits] = True
    return tuple(sorted([lot_of(order.places, bits) for bits in marks]))


def is_crossing(order, lot, other):
    """Tell whether two lots have common places, and neither is within the other one."""
    bits = checked_bits(order, lot)
    wide = checked_bits(order, other)
    return bits & wide != 0 and not is_within(bits, wide) and not is_within(wide, bits)


def least_like(order, lot):
    """Return the common part of all like lots that have all places of a lot."""
    bits = checked_bits(order, lot)
    if bits == 0:
        raise InvalidLot("the lot is empty")
    return lot_of(order.places, least_like_bits(order, bits))


def like_tree(order):
    """Return the dict from the nodes with at least two places to their shapes and parts."""
    need_order(order)
    tree = {}
    left = [all_bits(len(order))]
    while left:
        bits = left.pop()
        if len(spots(bits)) > 1:
            shape, parts = shape_and_parts(order, bits)
            tree[lot_of(order.places, bits)] = (shape, tuple([lot_of(order.places, part) for part in parts]))
            left = left + parts
    return {lot: tree[lot] for lot in sorted(tree)}


def quotient(order, lot):
    """Return the order of the least places of the parts of a node."""
    need_order(order)
    need_lot(order.places, lot)
    tree = like_tree(order)
    if lot not in tree:
        raise InvalidLot("no node with at least two places")
    return order.within(tuple(sorted([part[0] for part in tree[lot][1]])))


def replaced(order, place, inner):
    """Return the order in which the places of another order stand for a place."""
    need_order(order)
    need_place(order.places, place)
    others = tuple([name for name in order if name != place])
    if not isinstance(inner, Order) or any([name in others for name in inner]):
        raise InvalidOrder("no order without further common places")
    if len(others) + len(inner) > MAX_PLACES:
        raise InvalidOrder("more than seven places together")
    outer = tuple([pair for pair in order.pairs if place not in pair])
    early = crossed(order.ahead(place), inner.places)
    late = crossed(inner.places, order.behind(place))
    return made(others + inner.places, outer + early + late + inner.pairs)


def is_prime(order):
    """Tell whether the node of all places is prime."""
    tree = like_tree(order)
    return order.places in tree and tree[order.places][0] == "prime"


def bend(order):
    """Return a bend, or None if there is none."""
    need_order(order)
    beside = beside_rows(order)
    for b in range(len(order)):
        for c in spots(order.behind_bits[b]):
            for d in spots(order.behind_bits[b] & beside[c]):
                for a in spots(order.ahead_bits[c] & beside[b] & beside[d]):
                    return tuple([order.places[k] for k in (a, b, c, d)])
    return None


def is_bend(order, value):
    """Tell whether a value is a bend of the order."""
    need_order(order)
    if not isinstance(value, tuple) or len(value) != 4:
        return False
    if not all([is_place_of(order.places, place) for place in value]):
        return False
    a, b, c, d = [order.places.index(place) for place in value]
    ahead = order.ahead_bits
    beside = beside_rows(order)
    stands = has_bit(ahead[c], a) and has_bit(ahead[c], b) and has_bit(ahead[d], b)
    return stands and has_bit(beside[a], b) and has_bit(beside[a], d) and has_bit(beside[c], d)


def unlike_bits(order, bits):
    """Return the bits of the places outside a lot that see its places differently."""
    outside = spots(all_bits(len(order)) & ~bits)
    return sum([1 << k for k in outside if not is_alike_from(order, bits, k)])


def is_alike_from(order, bits, at):
    """Tell whether a place is ahead of all places of a lot, or behind all, or beside all."""
    ahead = order.ahead_bits[at] & bits
    behind = order.behind_bits[at] & bits
    return (ahead == 0 and behind == 0) or ahead == bits or behind == bits


def least_like_bits(order, bits):
    """Return the bits of the least like lot that has some places."""
    whole = bits
    more = unlike_bits(order, whole)
    while more:
        whole = whole | more
        more = unlike_bits(order, whole)
    return whole


def shape_and_parts(order, bits):
    """Return the shape and the list of the parts of a node, in their order."""
    beside = beside_rows(order)
    near = [order.ahead_bits[k] | order.behind_bits[k] for k in range(len(order))]
    parts = linked_parts(near, bits)
    if len(parts) > 1:
        return "beside", parts
    parts = linked_parts(beside, bits)
    if len(parts) > 1:
        ranked = sorted([(len(spots(order.ahead_bits[spots(part)[0]])), part) for part in parts])
        return "behind", [part for _, part in ranked]
    return "prime", prime_parts(order, bits)


def linked_parts(rows, bits):
    """Return the parts of a lot that no links of rows lead out of, by their least places."""
    parts = []
    left = bits
    while left:
        part = left & -left
        wider = (part | beyond(rows, part)) & left
        while wider != part:
            part = wider
            wider = (part | beyond(rows, part)) & left
        parts.append(part)
        left = left & ~part
    return parts


def prime_parts(order, bits):
    """Return the parts of a prime node, by their least places.

    Two places are in one part unless only the whole node is like and has both.
    """
    parts = []
    left = bits
    while left:
        first = left & -left
        near = [k for k in spots(left) if least_like_bits(order, first | (1 << k)) != bits]
        part = sum([1 << k for k in near])
        parts.append(part)
        left = left & ~part
    return parts


def unions(shape, parts):
    """Return the bits of all like lots that are made of parts of a node."""
    if shape == "beside":
        return all_unions(parts)
    return runs(parts) if shape == "behind" else []


def all_unions(parts):
    """Return the bits of the unions of any parts, but for none."""
    found = [0]
    for part in parts:
        found = found + [bits | part for bits in found]
    return found[1:]


def runs(parts):
    """Return the bits of the unions of parts that follow one another."""
    spans = range(len(parts))
    return [sum(parts[k:end + 1]) for k in spans for end in spans if k <= end]
