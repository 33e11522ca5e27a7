"""Orders, odd values and slow searches that the tests share."""

import copy
import itertools
import types

from downsets import errors
from downsets.back.lattices import lots_order
from downsets.base.orders import Order
from downsets.text.shell import Shell
from downsets.use.live import Live

ZIG = Order(("a", "b", "c", "d"), (("a", "c"), ("b", "c"), ("b", "d")))
VEE = Order(("a", "b", "c"), (("a", "b"), ("a", "c")))
SQUARE = Order(("a", "b", "c", "d"), (("a", "b"), ("a", "c"), ("b", "d"), ("c", "d")))
CROWN = Order(("a", "b", "c", "d"), (("a", "c"), ("a", "d"), ("b", "c"), ("b", "d")))
PAIRS = Order(("a", "b", "c", "d"), (("a", "b"), ("c", "d")))
FLAT = Order.flat(("a", "b", "c"))
PENT = Order(("a", "b", "c", "i", "o"), (("o", "a"), ("a", "b"), ("b", "i"), ("o", "c"), ("c", "i")))
ONE = Order(("a",))
SEVEN = tuple("abcdefg")
EXAMPLES = (ZIG, VEE, SQUARE, CROWN, PAIRS, FLAT, PENT, ONE)

LETTERS = "abcdefghijklmnopqrstuvwxyz"


def names_for(many):
    """So many different places, ascending."""
    return tuple([one + other for one in "abcd" for other in LETTERS][:many])


def flattened(order):
    """The order without any pair, made by taking out steps."""
    while order.steps:
        order = order.without_step(*order.steps[0])
    return order


def with_pairs(order, pairs):
    for one, other in pairs:
        order = order.with_pair(one, other)
    return order


# Boolean lattice of five places: 32 places, 7,581 closed lots.
BOOLEAN = lots_order(Order.flat(tuple("abcde")), names_for(32))
# The closed lots of three places beside a chain of four: forty places.
FORTY = lots_order(Order.flat(tuple("abc")) + Order.chain(tuple("defg")), names_for(40))
FLAT_FORTY = flattened(FORTY)
NAMES = names_for(40)


def with_closed(many_flat, chains):
    """Places beside one another, and chains of four, cut out of forty places."""
    names = NAMES[:many_flat + 4 * chains]
    order = FLAT_FORTY.within(names)
    for k in range(chains):
        row = names[many_flat + 4 * k:many_flat + 4 * k + 4]
        order = with_pairs(order, zip(row, row[1:]))
    return order


CHAIN_FORTY = with_pairs(FLAT_FORTY, zip(NAMES[1:], NAMES))
# Twenty levels of two places, each level ahead of the next one.
LEVELS = with_pairs(FLAT_FORTY, [
    (one, other) for k in range(0, 38, 2) for one in NAMES[k:k + 2] for other in NAMES[k + 2:k + 4]])

# 2 ** 5 * 5 ** 3 closed lots, and one more with a place ahead of all.
JUST_4000 = with_closed(5, 3)
JUST_4001 = with_pairs(
    FLAT_FORTY.within(NAMES[:18]),
    [pair for k in (5, 9, 13) for pair in zip(NAMES[k:k + 4], NAMES[k + 1:k + 4])]
    + [(NAMES[17], name) for name in NAMES[:17]])

DEEP = (((((((("a",),),),),),),),)
ODD_VALUES = (
    None, True, False, 0, 1, 2, -1, 10 ** 39, "", "a", "A", "abcdefghi", "a b", "a\n", "ab" * 200, "-", "z",
    (), [], {}, ("a",), ["a"], {"a": "a"}, ("a", "b"), ["a", "b"], ("b", "a"), ("a", "a"), ("a", "z"),
    ("a", 1), ("a", None), (True, False), ("a", ["b"]), (1, 2), ("zz",), ((), ()), ((), ("a",)),
    (("a", "b"),), [("a", "b")], (["a", "b"],), (("a", "b", "c"),), (("a", True),), {"a": {}}, {(): []}, {True: 1},
    DEEP, [[[[[[[[]]]]]]]], {"a": [{"b": ({"c": [None]},)}]},
    ("order", None), ("lattice", {}), ("none", "join", "a", "b"), ("five", ()), ("lots", None, {}),
    ("lineups", ()), ("ring", ()), ("laying", {}), ("two", ()), ("two", (None, [], {}, ())), (3, (), {}), ({}, {}),
    (None, {}), ((), ((),)), (("a",), [("a",)]), {"a": True}, {("a",): 1}, {("a",): True, (): 2}, {None: 1}, {1: 2},
    {"a": (1, 2)}, {"a": [1, 2]}, {"a": (2, 1)}, {(): ((), ())}, {(("a",), ("a",)): "a"}, {"": 0}, {"a": -(10 ** 39)},
    ("heaviest", (), {}), ("mean", ("a",), {}), ("table", ("a",), {}), ("table", ("a",), {(): 0}), ("late", 1, ("a",)),
    ("rows", (("a",),), ()), ("lineup", ("a",)), ("width", 1), ("width", -1), ("lineups", True), ("beside", "a", "a"),
    {("a", "b"): 1}, {("a", "a"): 1}, {"a": 1}, {"a": 10 ** 12}, "a:1", "a b\na<b",
    Order(("a",)), Order.flat(("a", "b", "c")), (Order(("a",)),), [Order(("a",))], {"a": Order(("a",))},
    Live(Order(("a",))), Live(Order.chain(("a", "b"))), Shell(), [Shell()],
    errors.InvalidOrder("a"), errors.TooMany(3),
)


def same(one, other):
    """Equal, and of equal kinds throughout: True is no 1."""
    if type(one) is not type(other):
        return False
    if isinstance(one, (tuple, list)):
        return len(one) == len(other) and all(map(same, one, other))
    if isinstance(one, dict):
        return list(one) == list(other) and all(same(one[key], other[key]) for key in one)
    if isinstance(one, Shell):
        return one.live() == other.live() and len(one) == len(other)
    return one == other


def is_key(value):
    """Whether a dict can have it as a key."""
    try:
        return hash(value) is not None
    except TypeError:
        return False


def odd_but(good):
    """The odd values but those for which a test holds."""
    return [value for value in ODD_VALUES if not good(value)]


NO_ORDERS = odd_but(lambda value: isinstance(value, Order))


def no_places(order):
    return odd_but(lambda value: isinstance(value, str) and value in order.places) + ["zzz"]


def no_lots(order):
    places = order.places

    def is_good(value):
        return isinstance(value, tuple) and value in all_lots(places)

    extra = [places[:1] * 2, list(places), ("zzz",), places[:1] + (1,)]
    if len(places) > 1:
        extra += [places[1::-1], places[::-1]]
    return odd_but(is_good) + extra


def no_closed(order):
    return no_lots(order) + [lot for lot in all_lots(order.places) if not slow_closed(order, lot)]


def no_lineups(order):
    places = order.places

    def is_good(value):
        return isinstance(value, tuple) and value in slow_lineups(order)

    rows = [row for row in itertools.permutations(places) if not is_good(row)]
    row = slow_lineups(order)[0]
    return odd_but(is_good) + rows + [list(row), row[:-1], row + row[-1:], row[:-1] + (1,), row[:-1] + ("zzz",)]


def no_numbers(low, high=None):
    """What is no integer from a low one to a high one, if there is one."""
    def is_good(value):
        return type(value) is int and low <= value and (high is None or value <= high)

    return odd_but(is_good) + [low - 1, str(low), [low], (low,)] + ([] if high is None else [high + 1])


def no_number_dicts(order, low=None, high=None):
    """What is no dict from just the places to integers, from a low to a high one if there are such."""
    least = 1 if low is None else low
    good = {place: least for place in order}
    first, last = order.places[0], order.places[-1]

    def is_good(value):
        return isinstance(value, dict) and set(value) == set(order.places) and all(
            type(number) is int and (low is None or low <= number <= high) for number in value.values())

    bad = [list(good.items()), tuple(good.items()), tuple(good), {**good, "zzz": least}, {**good, None: least}]
    bad += [{place: least for place in order.places[1:]},
        {"zzz" if place == first else place: least for place in order}]
    for value in (None, True, False, "1", (1,), [1], {}) + (() if low is None else (low - 1, high + 1)):
        bad += [{**good, first: value}, {**good, last: value}]
    return odd_but(is_good) + bad


def no_indices(top):
    """What is no integer from 0 to a top one."""
    return odd_but(lambda value: same(value, 0) or type(value) is int and 0 <= value <= top) + [top + 1, -1]


class Case:
    """A parameter: its good value, the bad ones, their error and what it keeps."""

    def __init__(self, good, bad, error, kept=None):
        self.good = good
        self.bad = bad
        self.error = error
        self.kept = kept


def order_case(order):
    return Case(order, NO_ORDERS, errors.InvalidOrder)


def place_case(order, place):
    return Case(place, no_places(order), errors.UnknownPlace, "place")


def lot_case(order, lot):
    return Case(lot, no_lots(order), errors.InvalidLot)


def closed_case(order, lot):
    return Case(lot, no_closed(order), errors.InvalidLot)


def lineup_case(order, lineup):
    return Case(lineup, no_lineups(order), errors.InvalidLineup)


def weights_case(order, weights, low, high):
    return Case(weights, no_number_dicts(order, low, high), errors.InvalidOperation)


def free_case(value):
    return Case(value, [], None)


def check_error(test, call, arguments, case, bad):
    before = copy.deepcopy([value for value in arguments if not isinstance(value, BaseException)])
    with test.assertRaises(case.error, msg=repr(arguments)) as caught:
        call(*arguments)
    test.assertIs(type(caught.exception), case.error, repr(arguments))
    if case.kept is not None:
        kept = getattr(caught.exception, case.kept)
        test.assertIs(kept, bad)
    after = [value for value in arguments if not isinstance(value, BaseException)]
    test.assertTrue(all(map(same, before, after)), "arguments were changed")


def check_cases(test, call, *cases):
    """Each bad value of each parameter, alone and before a bad later one."""
    good = [case.good for case in cases]
    call(*good)
    for k, case in enumerate(cases):
        for bad in case.bad:
            check_error(test, call, good[:k] + [bad] + good[k + 1:], case, bad)
        for at in range(k + 1, len(cases)):
            for later in cases[at].bad[:3] if case.bad else []:
                arguments = list(good)
                arguments[k] = case.bad[0]
                arguments[at] = later
                check_error(test, call, arguments, case, case.bad[0])


def check_late(test, call, arguments, error):
    """A generator raises its errors when its first element is requested."""
    found = call(*arguments)
    test.assertIsInstance(found, types.GeneratorType)
    with test.assertRaises(error) as caught:
        next(found)
    test.assertIs(type(caught.exception), error)


def check_judge(test, judge):
    """A judge answers True or False for each odd value."""
    for value in ODD_VALUES:
        test.assertIn(repr(judge(value)), ("True", "False"))


def check_too_many(test, call, *arguments, limit=4000):
    with test.assertRaises(errors.TooMany) as caught:
        call(*arguments)
    test.assertEqual(caught.exception.limit, limit)


def all_lots(places):
    """All lots of some places, ascending."""
    lots = []
    for many in range(len(places) + 1):
        lots.extend(itertools.combinations(sorted(places), many))
    return sorted(lots)


ORDERS = {}


def all_orders(many):
    """All orders of the first so many letters."""
    if many not in ORDERS:
        places = tuple(LETTERS[:many])
        spots = [(one, other) for one in places for other in places if one < other]
        found = {}
        for told in itertools.product((False, True), repeat=len(spots)):
            pairs = {spot for spot, does in zip(spots, told) if does}
            if all((w, z) in pairs for w, x in pairs for y, z in pairs if x == y):
                for row in itertools.permutations(places):
                    name = dict(zip(places, row))
                    found[tuple(sorted((name[one], name[other]) for one, other in pairs))] = True
        ORDERS[many] = [Order(places, pairs) for pairs in sorted(found)]
        if many <= 4:
            assert len(ORDERS[many]) == (1, 1, 3, 19, 219)[many]
    return ORDERS[many]


def small_orders(most=4):
    return [order for many in range(1, most + 1) for order in all_orders(many)]


def five_orders(step=1):
    """The orders of five places, or each step-th of them."""
    return all_orders(5)[::step]


def spread_orders():
    """Some orders of six and seven places."""
    return [
        VEE.renamed({"a": "x", "b": "y", "c": "z"}) + FLAT,
        ZIG + Order.chain(("x", "y", "z")),
        CROWN >> Order.flat(("x", "y", "z")),
        PENT + Order(("x", "y"), (("y", "x"),)),
        Order(SEVEN, (("a", "d"), ("b", "d"), ("b", "e"), ("c", "e"), ("d", "f"), ("e", "g"))),
        Order(SEVEN, (("g", "a"), ("a", "c"), ("f", "b"), ("b", "c"), ("d", "e"))),
        Order.chain(tuple("gfedcb")),
    ]


def slow_ahead(order, one, other):
    return (one, other) in order.pairs


def slow_closed(order, lot):
    return all(one in lot for one, other in order.pairs if other in lot)


def slow_flat(order, lot):
    return not any(one in lot and other in lot for one, other in order.pairs)


def slow_chain(order, lot):
    return all(
        (one, other) in order.pairs or (other, one) in order.pairs for one in lot for other in lot if one != other)


def slow_closed_lots(order):
    return tuple(lot for lot in all_lots(order.places) if slow_closed(order, lot))


LINEUPS = {}


def slow_lineups(order):
    key = (order.places, order.pairs)
    if key not in LINEUPS:
        LINEUPS[key] = [
            row for row in itertools.permutations(order.places)
            if all(row.index(one) < row.index(other) for one, other in order.pairs)]
    return LINEUPS[key]


def spoilt(value):
    """Values that differ from one in one spot, at any depth."""
    for other in (None, True, False, 0, 1, "zzz", (), [], {}):
        if not same(value, other):
            yield other
    if type(value) is int:
        yield from (value + 1, value - 1, str(value), (value,), 10 ** 39)
    if isinstance(value, tuple):
        yield list(value)
        yield value + value[-1:]
        yield value + (None,)
        if value:
            yield value[:-1]
            yield value[1:]
            yield value[::-1]
        for k in range(len(value)):
            for part in spoilt(value[k]):
                yield value[:k] + (part,) + value[k + 1:]
    if isinstance(value, dict):
        yield list(value.items())
        yield {**value, "zzz": "zzz"}
        for key in value:
            yield {name: value[name] for name in value if name != key}
            yield {"zzz" if name == key else name: value[name] for name in value}
            if isinstance(key, tuple):
                yield {key[:-1] if name == key else name: value[name] for name in value}
                yield {key[::-1] if name == key else name: value[name] for name in value}
                yield {(1,) + key if name == key else name: value[name] for name in value}
                yield {**value, key + (None,): value[key]}
                yield {**value, (): value[key]}
            for part in spoilt(value[key]):
                yield {**value, key: part}


def check_spoilt(test, judge, slow_judge, value):
    """A judge takes a value, and of its spoilt ones just those that a slow one takes."""
    test.assertIs(judge(value), True, repr(value))
    for other in spoilt(value):
        if not same(other, value):
            test.assertIs(judge(other), bool(slow_judge(other)), repr(other))
