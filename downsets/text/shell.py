"""A shell: a live order that is asked and changed by lines."""

from downsets.base.words import is_place
from downsets.errors import Circle, InvalidNumber, InvalidOperation, InvalidOrder, NothingToUndo, OrderError
from downsets.errors import ParseError, Refused, TooMany, UnknownPlace
from downsets.heavy.weights import greatest_weight, least_heaviest
from downsets.text.texts import number_of, read, write
from downsets.use.live import WORDS, Live
from downsets.ways.lineups import lineup_at
from downsets.ways.shares import mean_position, share
from downsets.work.rows import fewest_rows

BARE = ("turn", "rows", "show", "pins")
PLACES = {"put": 2, "take": 2, "add": 1, "remove": 1, "share": 2, "mean": 1}
NUMBERS = ("undo", "redo", "lineup")
TEXTS = {"order": "order", "pin": "claim", "unpin": "claim", "closure": "lot", "heavy": "weights"}
CHANGES = ("put", "take", "add", "remove", "turn", "pin", "unpin", "undo", "redo")


class Shell:
    """A shell keeps a live order, at first none, and the words of the commands that were done."""

    def __init__(self):
        self._kept = None
        self._done = []

    def tell(self, line):
        """Do what a line says, and return the answer."""
        if not isinstance(line, str):
            raise ParseError(None)
        try:
            word, values = parts_of(line)
            answer = self._answer(word, values)
        except (OrderError, UnknownPlace, InvalidNumber, Circle, TooMany, NothingToUndo, Refused) as why:
            return "error " + type(why).__name__
        self._done.append(word)
        return answer

    def tell_all(self, lines):
        """Return the answers to some lines, one after another."""
        if not isinstance(lines, tuple) or not all([isinstance(line, str) for line in lines]):
            raise InvalidOperation("no tuple of strings")
        return tuple([self.tell(line) for line in lines])

    def live(self):
        """Return a twin of the live order, or None."""
        return None if self._kept is None else self._kept.twin()

    def _answer(self, word, values):
        """Do a command, and return the answer."""
        if word == "order":
            self._kept = Live(values[0])
            return "ok"
        if self._kept is None:
            raise InvalidOrder("no order yet")
        if word in CHANGES:
            return news_text(changed(self._kept, word, values))
        return told(self._kept, word, values)

    def __len__(self):
        return len(self._done)

    def __call__(self, line):
        return self.tell(line)


def parts_of(line):
    """Return the word of a command and the list of its values, or refuse a line that is none."""
    word, blank, rest = line.partition(" ")
    if "\n" in line:
        raise ParseError(0)
    if blank == "" and (word in BARE or word in WORDS):
        return word, []
    if word in PLACES:
        return word, places_from(rest, PLACES[word])
    if word in NUMBERS:
        return word, [number_from(rest)]
    if word in TEXTS:
        return word, [read(TEXTS[word], rest.replace("; ", "\n") if word == "order" else rest)]
    raise ParseError(0)


def places_from(text, many):
    """Return the list of so many places that stand in a text."""
    words = text.split(" ")
    if len(words) != many or not all([is_place(word) for word in words]):
        raise ParseError(0)
    return words


def number_from(text):
    """Return the integer of at least 1 that stands in a text."""
    number = number_of(text)
    if number is None or number < 1:
        raise ParseError(0)
    return number


def changed(live, word, values):
    """Change a live order, and return the news."""
    if word == "turn":
        return live.turn()
    if word == "put":
        return live.put(values[0], values[1])
    if word == "take":
        return live.take(values[0], values[1])
    if word == "add":
        return live.add(values[0])
    if word == "remove":
        return live.remove(values[0])
    if word == "pin":
        return live.pin(values[0])
    if word == "unpin":
        return live.unpin(values[0])
    return live.undo(many=values[0]) if word == "undo" else live.redo(many=values[0])


def told(live, word, values):
    """Return the answer to a command that changes nothing."""
    order = live.order
    if word in WORDS:
        return str(live[word])
    if word == "share":
        return fraction_text(share(order, values[0], values[1]))
    if word == "mean":
        return fraction_text(mean_position(order, values[0]))
    if word == "lineup":
        return write("lineup", lineup_at(order, values[0] - 1))
    if word == "closure":
        return write("lot", order.closure(values[0]))
    if word == "heavy":
        lot = write("lot", least_heaviest(order, values[0]))
        return f"{greatest_weight(order, values[0])}: {lot}"
    if word == "rows":
        return str(fewest_rows(order))
    if word == "show":
        return write("order", order).replace("\n", "; ")
    return "; ".join([write("claim", claim) for claim in live.pins]) if live.pins else "-"


def fraction_text(value):
    """Return the text of a fraction."""
    return f"{value[0]}/{value[1]}"


def news_text(news):
    """Return the text of news."""
    return "; ".join([f"{word} {before} {now}" for word, before, now in news]) if news else "-"
