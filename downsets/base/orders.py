"""Orders of places: which places must come ahead of which."""

from downsets.base.checks import bit_rows, bits_of, followed_rows, has_bit, has_just_keys, is_place_of
from downsets.base.checks import is_within, lot_of, need_lot, need_place, need_two, spots, turned_rows
from downsets.base.words import is_place
from downsets.errors import Circle, InvalidLot, InvalidOperation, InvalidOrder

MAX_PLACES = 7
MAX_MADE = 40


class Order:
    """An order. It never changes; methods that change it return another one.

    `ahead_bits` and `behind_bits` have, for each place in turn, the bits of
    the places ahead of it and behind it.
    """

    def __init__(self, places, ahead=()):
        need_places(places)
        if not are_pairs(places, ahead):
            raise InvalidOrder("no tuple of pairs of different places of the order")
        names = tuple(sorted(places))
        rows = followed_rows(bit_rows(names, ahead))
        if any([has_bit(rows[k], k) for k in range(len(rows))]):
            raise Circle(shortest_circle(names, ahead))
        self._places = names
        self.ahead_bits = tuple(rows)
        self.behind_bits = tuple(turned_rows(rows))
        self._pairs = None
        self._steps = None

    @classmethod
    def flat(cls, places):
        """Return the order of places without pairs."""
        return cls(places)

    @classmethod
    def chain(cls, places):
        """Return the order in which each place is ahead of all later ones."""
        need_places(places)
        steps = [(places[k], places[k + 1]) for k in range(len(places) - 1)]
        return cls(places, tuple(steps))

    @property
    def places(self):
        """The places, ascending."""
        return self._places

    @property
    def pairs(self):
        """All pairs of the order, ascending."""
        if self._pairs is None:
            self._pairs = pairs_of_rows(self._places, self.behind_bits)
        return self._pairs

    @property
    def steps(self):
        """All steps of the order, ascending."""
        if self._steps is None:
            self._steps = pairs_of_rows(self._places, step_rows(self.behind_bits))
        return self._steps

    @property
    def firsts(self):
        """The lot of the places that are behind no other one."""
        return bare_places(self._places, self.ahead_bits)

    @property
    def tops(self):
        """The lot of the places that are ahead of no other one."""
        return bare_places(self._places, self.behind_bits)

    @property
    def is_flat(self):
        """Whether each two places are beside one another."""
        return len(self.firsts) == len(self._places)

    @property
    def is_chain(self):
        """Whether no two places are beside one another."""
        return 2 * len(self.pairs) == len(self._places) * (len(self._places) - 1)

    def is_ahead(self, one, other):
        """Tell whether one place is ahead of another one."""
        need_two(self._places, one, other)
        return other in self.behind(one)

    def is_beside(self, one, other):
        """Tell whether two places are beside one another."""
        need_two(self._places, one, other)
        return other not in self.behind(one) and other not in self.ahead(one)

    def ahead(self, place):
        """Return the lot of the places ahead of a place."""
        return row_lot(self._places, self.ahead_bits, place)

    def behind(self, place):
        """Return the lot of the places behind a place."""
        return row_lot(self._places, self.behind_bits, place)

    def up(self, place):
        """Return the lot of the places that steps lead to from a place."""
        return row_lot(self._places, step_rows(self.behind_bits), place)

    def down(self, place):
        """Return the lot of the places that steps lead from to a place."""
        return row_lot(self._places, step_rows(self.ahead_bits), place)

    def closure(self, lot, *, turned=False):
        """Return the least closed lot that has the places of a lot."""
        need_lot(self._places, lot)
        if not isinstance(turned, bool):
            raise InvalidOperation("turned is a boolean")
        rows = self.behind_bits if turned else self.ahead_bits
        bits = bits_of(self._places, lot)
        for k in spots(bits):
            bits = bits | rows[k]
        return lot_of(self._places, bits)

    def within(self, lot):
        """Return the order of the places of a lot."""
        need_lot(self._places, lot)
        if not lot:
            raise InvalidLot("an order has at least one place")
        return made(lot, [(one, other) for one, other in self.pairs if one in lot and other in lot])

    def without(self, place):
        """Return the order of all places but one."""
        need_place(self._places, place)
        if len(self._places) == 1:
            raise InvalidOrder("an order has at least one place")
        return self.within(tuple([name for name in self._places if name != place]))

    def with_place(self, place):
        """Return the order with one place more, beside all others."""
        if not is_place(place) or place in self._places or len(self._places) >= MAX_PLACES:
            raise InvalidOrder("this place cannot come in")
        return made(self._places + (place,), self.pairs)

    def renamed(self, names):
        """Return the order with other names for its places."""
        if not are_names(self._places, names):
            raise InvalidOperation("no dict from just the places to different places")
        pairs = [(names[one], names[other]) for one, other in self.pairs]
        return made([names[place] for place in self._places], pairs)

    def with_pair(self, one, other):
        """Return the order in which one place is ahead of another one, too."""
        need_two(self._places, one, other)
        if self.is_ahead(other, one):
            raise InvalidOperation("the other place is ahead of the one")
        early = self.ahead(one) + (one,)
        late = self.behind(other) + (other,)
        return made(self._places, self.pairs + crossed(early, late))

    def without_step(self, one, other):
        """Return the order that lacks just one step."""
        need_two(self._places, one, other)
        if (one, other) not in self.steps:
            raise InvalidOperation("no step of the order")
        return made(self._places, [pair for pair in self.pairs if pair != (one, other)])

    def is_part_of(self, other):
        """Tell whether all pairs of this order are pairs of another one."""
        if not isinstance(other, Order) or other.places != self._places:
            raise InvalidOrder("no order with the same places")
        spans = range(len(self._places))
        return all([is_within(self.ahead_bits[k], other.ahead_bits[k]) for k in spans])

    def __invert__(self):
        return made(self._places, [(other, one) for one, other in self.pairs])

    def __add__(self, other):
        need_apart(self._places, other)
        return made(self._places + other.places, self.pairs + other.pairs)

    def __rshift__(self, other):
        need_apart(self._places, other)
        between = crossed(self._places, other.places)
        return made(self._places + other.places, self.pairs + other.pairs + between)

    def __len__(self):
        return len(self._places)

    def __contains__(self, value):
        return is_place_of(self._places, value)

    def __iter__(self):
        return iter(self._places)

    def __eq__(self, other):
        if not isinstance(other, Order):
            return False
        return self._places == other.places and self.ahead_bits == other.ahead_bits

    def __str__(self):
        return f"order of {len(self._places)} places, {len(self.steps)} steps"


def made(places, pairs):
    """Return the order of any number of places with all of these pairs.

    The class takes seven places at most; methods and functions return more.
    """
    names = tuple(sorted(places))
    rows = bit_rows(names, pairs)
    order = Order((names[0],))
    order._places = names
    order.ahead_bits = tuple(rows)
    order.behind_bits = tuple(turned_rows(rows))
    return order


def need_order(order):
    """Refuse what is no order."""
    if not isinstance(order, Order):
        raise InvalidOrder("no order")


def need_places(places):
    """Refuse what is no tuple of one to seven different places."""
    if not isinstance(places, tuple) or not 1 <= len(places) <= MAX_PLACES or not are_different(places):
        raise InvalidOrder("no tuple of one to seven different places")


def need_apart(places, other):
    """Refuse what is no order that can be put to these places."""
    if not isinstance(other, Order) or any([place in places for place in other.places]):
        raise InvalidOrder("no order without common places")
    if len(places) + len(other.places) > MAX_PLACES:
        raise InvalidOrder("more than seven places together")


def are_different(values):
    """Tell whether the values of a row are different places."""
    return all([is_place(value) for value in values]) and len(set(values)) == len(values)


def are_pairs(places, value):
    """Tell whether a value is a tuple of pairs of different places among these."""
    if not isinstance(value, tuple):
        return False
    return all([is_pair(places, pair) for pair in value])


def is_pair(places, value):
    """Tell whether a value is a pair of different places among these."""
    if not isinstance(value, tuple) or len(value) != 2:
        return False
    return all([is_place_of(places, place) for place in value]) and value[0] != value[1]


def are_names(places, value):
    """Tell whether a value is a dict from just the places to different places."""
    return has_just_keys(places, value) and are_different(list(value.values()))


def shortest_circle(places, pairs):
    """Return a shortest circle that pairs lead along, or an empty tuple."""
    best = ()
    for start in places:
        circle = circle_from(start, pairs)
        if circle and (not best or len(circle) < len(best)):
            best = circle
    return best


def circle_from(start, pairs):
    """Return a shortest circle from a place back to it, or an empty tuple."""
    ways = [(start,)]
    reached = {start: True}
    while ways:
        longer = []
        for way in list(ways):
            for one, other in pairs:
                if one == way[-1] and other == start:
                    return way
                if one == way[-1] and other not in reached:
                    reached[other] = True
                    longer.append(way + (other,))
        ways = longer
    return ()


def crossed(early, late):
    """Return all pairs of a place of the first lot and one of the second."""
    return tuple([(one, other) for one in early for other in late])


def pairs_of_rows(places, rows):
    """Return the pairs of each place and the places that its row has."""
    spans = range(len(places))
    return tuple([(places[k], places[at]) for k in spans for at in spots(rows[k])])


def step_rows(rows):
    """Return the rows without what only follows from other places of them."""
    return [row & ~beyond(rows, row) for row in rows]


def beyond(rows, bits):
    """Return the bits of all that the rows of some places have."""
    found = 0
    for k in spots(bits):
        found = found | rows[k]
    return found


def row_lot(places, rows, place):
    """Return the lot of the places that the row of a place has."""
    need_place(places, place)
    return lot_of(places, rows[places.index(place)])


def bare_places(places, rows):
    """Return the lot of the places with an empty row."""
    return tuple([places[k] for k in range(len(places)) if rows[k] == 0])
