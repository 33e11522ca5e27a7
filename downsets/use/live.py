"""A live order: changed step by step, with claims that always hold."""

from downsets.base.lots import closed_number
from downsets.base.orders import MAX_PLACES, need_order
from downsets.base.words import is_place, is_whole
from downsets.errors import InvalidNumber, InvalidOperation, InvalidOrder, NothingToUndo, Refused
from downsets.lines.two import telling_number
from downsets.maps.cores import core
from downsets.ways.lineups import lineup_number
from downsets.wide.widths import height, width

WORDS = ("closed", "core", "height", "lines", "lineups", "width")


def facts(order):
    """Return the dict from the words to the facts of an order."""
    need_few_places(order)
    return {
        "closed": closed_number(order),
        "core": len(core(order)[0]),
        "height": height(order),
        "lines": telling_number(order),
        "lineups": lineup_number(order),
        "width": width(order),
    }


def is_claim(value):
    """Tell whether a value is a claim."""
    if not isinstance(value, tuple) or not 2 <= len(value) <= 3:
        return False
    if len(value) == 3:
        word, one, other = value
        return word in ("ahead", "beside") and is_place(one) and is_place(other) and one != other
    word, many = value
    return word in WORDS and is_whole(many) and many >= 0


def does_hold(order, claim):
    """Tell whether a claim holds."""
    need_few_places(order)
    need_claim(claim)
    return does_hold_for(order, facts(order), claim)


class Live:
    """An order that is changed step by step.

    The past has the changes that can be taken back, and the coming those that
    can be done again: pairs of a name and of how all stood before the change,
    or behind it.
    """

    def __init__(self, order):
        self._stand = Stand(order, (), facts(order))
        self._past = ()
        self._coming = ()

    @property
    def order(self):
        """The order as it is now."""
        return self._stand.whole

    @property
    def pins(self):
        """The pinned claims, in the order in which they were pinned."""
        return self._stand.claims

    @property
    def log(self):
        """The names of the changes that can be taken back, the first one first."""
        return tuple([name for name, _ in self._past])

    def put(self, one, other):
        """Put a place ahead of another one, with what follows."""
        return self._make("put", self.order.with_pair(one, other))

    def take(self, one, other):
        """Take one step out."""
        return self._make("take", self.order.without_step(one, other))

    def add(self, place):
        """Put a place beside all others."""
        return self._make("add", self.order.with_place(place))

    def remove(self, place):
        """Take a place out."""
        return self._make("remove", self.order.without(place))

    def turn(self):
        """Exchange ahead and behind."""
        return self._make("turn", ~self.order)

    def rename(self, names):
        """Give the places other names."""
        return self._make("rename", self.order.renamed(names))

    def pin(self, claim):
        """Pin a claim, which must hold from now on."""
        need_claim(claim)
        if claim in self.pins:
            raise InvalidOperation("the claim is pinned already")
        if not does_hold_for(self.order, self._stand.known, claim):
            raise Refused(claim)
        return self._go_on("pin", Stand(self.order, self.pins + (claim,), self._stand.known))

    def unpin(self, claim):
        """Let a pinned claim go."""
        need_claim(claim)
        if claim not in self.pins:
            raise InvalidOperation("the claim is not pinned")
        left = tuple([pinned for pinned in self.pins if pinned != claim])
        return self._go_on("unpin", Stand(self.order, left, self._stand.known))

    def undo(self, *, many=1):
        """Take back so many changes, the last one first."""
        need_changes(many, self._past)
        known = self._stand.known
        for _ in range(many):
            name, before = self._past[-1]
            self._coming = ((name, self._stand),) + self._coming
            self._past = self._past[:-1]
            self._stand = before
        return news(known, self._stand.known)

    def redo(self, *, many=1):
        """Do so many changes again that were taken back."""
        need_changes(many, self._coming)
        known = self._stand.known
        for _ in range(many):
            name, behind = self._coming[0]
            self._past = self._past + ((name, self._stand),)
            self._coming = self._coming[1:]
            self._stand = behind
        return news(known, self._stand.known)

    def attempt(self):
        """Return a block behind which all is as it was when the block was entered."""
        return Attempt(self)

    def during(self, call):
        """Return what a call of this live order returns in such a block."""
        with self.attempt() as same:
            return call(same)

    def twin(self):
        """Return an independent equal live order."""
        other = Live(self.order)
        other._stand = self._stand
        other._past = self._past
        other._coming = self._coming
        return other

    def _make(self, name, order):
        """Make another order for which all pinned claims hold, and return the news."""
        known = facts(order)
        for claim in self.pins:
            if not does_hold_for(order, known, claim):
                raise Refused(claim)
        return self._go_on(name, Stand(order, self.pins, known))

    def _go_on(self, name, stand):
        """Do a change with this name, and return the news."""
        before = self._stand
        self._past = self._past + ((name, before),)
        self._coming = ()
        self._stand = stand
        return news(before.known, stand.known)

    def __getitem__(self, word):
        if word not in WORDS:
            raise InvalidOperation("no word of a fact")
        return self._stand.known[word]

    def __contains__(self, value):
        return value in self._stand.whole

    def __len__(self):
        return len(self._stand.whole.pairs)

    def __iter__(self):
        return iter(self._stand.claims)

    def __eq__(self, other):
        if not isinstance(other, Live):
            return False
        return self._stand.whole == other._stand.whole and self._stand.claims == other._stand.claims

    def __str__(self):
        return f"{str(self._stand.whole)}; {len(self._stand.claims)} pins"


class Stand:
    """How all stands between two changes: an order, the pinned claims, and the facts."""

    def __init__(self, whole, claims, known):
        self.whole = whole
        self.claims = claims
        self.known = known


class Attempt:
    """A block behind which a live order is as it was."""

    def __init__(self, held):
        self.held = held
        self.stand = held._stand
        self.past = held._past
        self.coming = held._coming

    def __enter__(self):
        self.stand = self.held._stand
        self.past = self.held._past
        self.coming = self.held._coming
        return self.held

    def __exit__(self, kind, value, trace):
        held = self.held
        held._stand = self.stand
        held._past = self.past
        held._coming = self.coming


def need_few_places(order):
    """Refuse what is no order with at most seven places."""
    need_order(order)
    if len(order) > MAX_PLACES:
        raise InvalidOrder("more than seven places")


def need_claim(claim):
    """Refuse what is no claim."""
    if not is_claim(claim):
        raise InvalidOperation("no claim")


def need_changes(many, changes):
    """Refuse what is no number of changes, or more than there are."""
    if not is_whole(many) or many < 0:
        raise InvalidNumber(many)
    if many > len(changes):
        raise NothingToUndo(many)


def does_hold_for(order, known, claim):
    """Tell whether a claim holds for an order with these facts."""
    if len(claim) == 2:
        word, many = claim
        return known[word] >= many if word == "lineups" else known[word] <= many
    word, one, other = claim
    if one not in order or other not in order:
        return False
    return order.is_ahead(one, other) if word == "ahead" else order.is_beside(one, other)


def news(before, now):
    """Return the facts that are not equal in two dicts, with both, ascending."""
    return tuple([(word, before[word], now[word]) for word in WORDS if before[word] != now[word]])
