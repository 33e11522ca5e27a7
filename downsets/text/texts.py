"""Texts of values, by kinds.

What is read is first taken apart without care, and then refused unless it is a
value of the kind that is written by the same text.
"""

from downsets.base.orders import MAX_MADE, MAX_PLACES, Order, are_different
from downsets.base.words import is_place, is_whole
from downsets.errors import Circle, InvalidOperation, InvalidOrder, ParseError
from downsets.parts.stretches import MAX_END, is_stretch
from downsets.use.live import is_claim

KINDS = ("claim", "laying", "lineup", "lot", "lots", "order", "pairs", "payments", "weights")
MAX_DIGITS = 12
MAX_LOTS = 4000


def is_kind(value):
    """Tell whether a value is a kind."""
    return value in KINDS


def write(kind, value):
    """Return the text of a value of a kind."""
    need_kind(kind)
    if not is_of_kind(kind, value):
        raise InvalidOperation("no value of this kind")
    return text_of(kind, value)


def read(kind, text):
    """Return the value of a kind with a text."""
    need_kind(kind)
    if not isinstance(text, str):
        raise ParseError(None)
    lines = text.split("\n")
    value = order_of_lines(lines) if kind == "order" else value_of_line(kind, lines[0])
    many = 2 if kind == "order" else 1
    if len(lines) > many:
        raise ParseError(many)
    return value


def is_text(kind, value):
    """Tell whether a value is a text of a kind."""
    try:
        read(kind, value)
    except ParseError:
        return False
    return True


def need_kind(kind):
    """Refuse what is no kind."""
    if not is_kind(kind):
        raise InvalidOperation("no kind")


def value_of_line(kind, line):
    """Return the value of a kind with a line as its text, or refuse the line as the first one."""
    value = taken_apart(kind, line)
    if not is_of_kind(kind, value) or text_of(kind, value) != line:
        raise ParseError(0)
    return value


def order_of_lines(lines):
    """Return the order that the first lines tell, or refuse one of them."""
    places = value_of_line("lot", lines[0])
    if not 1 <= len(places) <= MAX_PLACES:
        raise ParseError(0)
    if len(lines) == 1:
        return Order(places)
    try:
        order = Order(places, taken_apart("pairs", lines[1]))
    except (InvalidOrder, Circle):
        raise ParseError(1) from None
    if not order.steps or text_of("pairs", order.steps) != lines[1]:
        raise ParseError(1)
    return order


def taken_apart(kind, line):
    """Return what a line of a kind, but not of orders, would tell if it were right."""
    if kind == "lot":
        return lot_from(line)
    if kind == "lots":
        return () if line == "/" else tuple([lot_from(part) for part in line.split(" / ")])
    if kind == "lineup":
        return tuple(line.split(" "))
    if kind == "pairs":
        return () if line == "-" else tuple([pair_from(word, "<") for word in line.split(" ")])
    if kind == "claim":
        return claim_from(line)
    return dict_from(kind, line)


def lot_from(line):
    """Return what the line of a lot would tell."""
    return () if line == "-" else tuple(line.split(" "))


def pair_from(word, sign):
    """Return the pair of what stands on both sides of a sign."""
    one, _, other = word.partition(sign)
    return (one, other)


def claim_from(line):
    """Return what the line of a claim would tell."""
    words = line.split(" ")
    if len(words) == 2:
        return (words[0], number_of(words[1]))
    return tuple(words)


def dict_from(kind, line):
    """Return what the line of weights, payments or a laying would tell."""
    found = {}
    for word in line.split(" ") if line != "-" else []:
        name, told = pair_from(word, ":")
        key = pair_from(name, ">") if kind == "payments" else name
        found[key] = stretch_from(told) if kind == "laying" else number_of(told)
    return found


def stretch_from(told):
    """Return what the text of a stretch would tell."""
    begin, end = pair_from(told, "..")
    return (number_of(begin), number_of(end))


def number_of(text):
    """Return the integer with a text, or None if there is none."""
    digits = text[1:] if text.startswith("-") else text
    if not 1 <= len(digits) <= MAX_DIGITS or not all(["0" <= digit <= "9" for digit in digits]):
        return None
    number = int(text)
    return number if str(number) == text else None


def is_of_kind(kind, value):
    """Tell whether a value is one of a kind."""
    if kind == "order":
        return isinstance(value, Order) and len(value) <= MAX_PLACES
    if kind == "claim":
        return is_claim(value) and (len(value) == 3 or is_number(value[1]))
    if kind in ("laying", "payments", "weights"):
        return isinstance(value, dict) and is_dict_of_kind(kind, value)
    if not isinstance(value, tuple):
        return False
    if kind == "lot":
        return is_some_lot(value)
    if kind == "lots":
        return len(value) <= MAX_LOTS and all([is_some_lot(lot) for lot in value])
    if kind == "lineup":
        return 1 <= len(value) <= MAX_MADE and are_different(value)
    return all([is_duo(pair) for pair in value]) and is_ascending(value)


def is_dict_of_kind(kind, value):
    """Tell whether the keys and values of a dict are those of a kind."""
    told = list(value.values())
    if kind == "payments":
        return all([is_duo(key) for key in value]) and all([is_number(many) and many >= 1 for many in told])
    if not value or not all([is_place(key) for key in value]):
        return False
    if kind == "laying":
        return all([is_stretch(stretch) for stretch in told])
    return all([is_number(number) for number in told])


def is_some_lot(value):
    """Tell whether a value is an ascending tuple of few places."""
    if not isinstance(value, tuple) or len(value) > MAX_MADE:
        return False
    return all([is_place(place) for place in value]) and is_ascending(value)


def is_duo(value):
    """Tell whether a value is a tuple of two different places."""
    return isinstance(value, tuple) and len(value) == 2 and are_different(value)


def is_number(value):
    """Tell whether a value is an integer that texts can have."""
    return is_whole(value) and -MAX_END <= value <= MAX_END


def is_ascending(row):
    """Tell whether a row is ascending."""
    return all([row[k] < row[k + 1] for k in range(len(row) - 1)])


def text_of(kind, value):
    """Return the text of what is known to be a value of a kind."""
    if kind == "order":
        lines = [text_of("lot", value.places)] + ([text_of("pairs", value.steps)] if value.steps else [])
        return "\n".join(lines)
    if kind == "lots":
        return " / ".join([text_of("lot", lot) for lot in value]) if value else "/"
    if kind == "pairs":
        words = [f"{one}<{other}" for one, other in value]
    elif kind in ("laying", "payments", "weights"):
        words = [f"{key_text(key)}:{told_text(value[key])}" for key in sorted(value)]
    else:
        words = [str(part) for part in value]
    return " ".join(words) if words else "-"


def key_text(key):
    """Return the text of a place, or of a payer and a taker."""
    return key if isinstance(key, str) else ">".join(key)


def told_text(told):
    """Return the text of a number, or of a stretch."""
    return str(told) if isinstance(told, int) else f"{told[0]}..{told[1]}"
