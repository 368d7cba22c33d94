"""Written forms of things, and of stores of facts (points 31 and 32)."""

from everyworth.errors import BadText, DuplicateFact, InvalidArgument, UnknownTable
from everyworth.facts import Facts
from everyworth.kinds import is_decimal, is_pair
from everyworth.values import is_plain, is_row

MOST_DEEP = 40
LONGEST_LENGTH = 2
LONGEST_NUMBER = 60


def write(thing):
    """Return the written form of an integer, a text or a tuple of such things."""
    written = []
    # Not by recursion: a tree may be hundreds of tuples deep.
    waiting = [(thing, False)]
    while waiting:
        part, is_written = waiting.pop()
        if is_written:
            written.append(part)
        elif isinstance(part, tuple):
            waiting.extend(_spread(part)[::-1])
        elif isinstance(part, str):
            written.append(f"{len(part)}:{part}")
        else:
            written.append(_decimal(part))
    return "".join(written)


def _spread(parts):
    """Return the parts of a tuple and the signs around them, each with whether it is written."""
    spread = [("(", True)]
    for place, part in enumerate(parts):
        if place > 0:
            spread.append((",", True))
        spread.append((part, False))
    spread.append((")", True))
    return spread


def _decimal(number):
    # In pieces, as Python writes no integer of thousands of digits at once.
    sign = "-" if number < 0 else ""
    rest = abs(number)
    pieces = []
    while rest >= 10 ** 60:
        rest, piece = divmod(rest, 10 ** 60)
        pieces.append(str(piece).zfill(60))
    return sign + str(rest) + "".join(pieces[::-1])


def read(text):
    """Return the thing of which a text is the written form."""
    scanner = Scanner(text)
    thing = scanner.thing(0)
    if not scanner.is_done():
        raise BadText("something stands behind the written form")
    return thing


class Scanner:
    """A text that is read from left to right; what is no written form raises BadText."""

    def __init__(self, text):
        self._text = text
        self._place = 0

    def is_done(self):
        """Tell whether the whole text is read."""
        return self._place == len(self._text)

    def thing(self, depth):
        """Read a thing that stands within so many tuples."""
        if self._passes("("):
            return self._tuple(depth + 1)
        negative = self._passes("-")
        digits = self._digits()
        if digits == "" or (digits[0] == "0" and len(digits) > 1):
            raise BadText("there are no digits, or leading zeros")
        if not negative and self._passes(":"):
            return self._words(digits)
        if len(digits) > LONGEST_NUMBER or (negative and digits == "0"):
            raise BadText("the integer is too long, or zero with a sign")
        return -int(digits) if negative else int(digits)

    def _tuple(self, depth):
        if depth > MOST_DEEP:
            raise BadText("there are too many tuples within one another")
        if self._passes(")"):
            return ()
        parts = [self.thing(depth)]
        while self._passes(","):
            parts.append(self.thing(depth))
        if not self._passes(")"):
            raise BadText("a tuple is not ended")
        return tuple(parts)

    def _words(self, digits):
        if len(digits) > LONGEST_LENGTH:
            raise BadText("the length of a text is too long")
        end = self._place + int(digits)
        words = self._text[self._place:end]
        if end > len(self._text) or not is_plain(words):
            raise BadText("a text is too short, or has a character that no text has")
        self._place = end
        return words

    def _digits(self):
        start = self._place
        while not self.is_done() and "0" <= self._text[self._place] <= "9":
            self._place += 1
        return self._text[start:self._place]

    def _passes(self, sign):
        """Pass a sign if it stands here, and tell whether it does."""
        if self.is_done() or self._text[self._place] != sign:
            return False
        self._place += 1
        return True


def store_text(facts):
    """Return the text of a store of facts."""
    lines = [f"table {name} {arity}\n" for name, arity in facts.tables()]
    for number in range(facts.count()):
        word = "fact" if facts.is_there(number) else "gone"
        pair = write(facts.fact(number))
        lines.append(f"{word} {pair}\n")
    return "".join(lines)


def read_store(text):
    """Return the store of facts of which this is the text."""
    lines = text.split("\n")
    try:
        facts = _store_of(lines[:-1])
    except (UnknownTable, InvalidArgument, DuplicateFact):
        raise BadText("the tables or the facts are none of one store") from None
    # The lines may stand in another order, or begin in another way, than a store has them.
    if store_text(facts) != text:
        raise BadText("the text is not the one of its store")
    return facts


def _store_of(lines):
    tables = [line for line in lines if line.startswith("table ")]
    facts = Facts([_table_of(line) for line in tables])
    for line in lines:
        if not line.startswith("table "):
            _put_fact(facts, line)
    return facts


def _table_of(line):
    words = line.split(" ")
    if len(words) != 3 or len(words[2]) != 1 or not is_decimal(words[2]):
        raise BadText("a line is not that of a table")
    return words[1], int(words[2])


def _put_fact(facts, line):
    word, _, written = line.partition(" ")
    pair = read(written)
    if not is_pair(pair) or not isinstance(pair[0], str) or not is_row(pair[1]):
        raise BadText("a line is not that of a fact")
    number = facts.add(pair[0], pair[1])
    if word == "gone":
        facts.give_up(number)
