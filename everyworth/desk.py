"""The desk: an engine that takes lines and answers with texts (point 40)."""

from everyworth.engine import Engine
from everyworth.errors import (
    BadText, DuplicateFact, DuplicateView, InvalidArgument, NoStar, NothingToUndo, QueryError,
    TooLarge, UnknownFact, UnknownTable, UnknownView, WrongState,
)
from everyworth.kinds import is_integer
from everyworth.normal import normal
from everyworth.notation import read, write
from everyworth.reasons import least_whys, repairs
from everyworth.values import is_row

# What stands behind each word of a line.
PARTS = {
    "add": ("text", "row"), "give": ("number",), "back": ("number",), "define": ("text", "query"),
    "undo": (), "rows": ("text",), "whys": ("text", "row"), "repairs": ("text", "row"),
    "normal": ("text", "row"), "facts": (),
}
CHANGES = ("add", "give", "back", "define", "undo")


class Desk:
    """An engine behind lines that are written forms."""

    def __init__(self, tables):
        self._engine = Engine(tables)
        self._lines = []

    def answer(self, line):
        """Return the answer to a line."""
        thing = _thing_of(line)
        if not _is_asked(thing):
            return "?"
        told = _told(self._engine, thing)
        # No written form begins like the answer that tells an error.
        if thing[0] in CHANGES and not told.startswith("!"):
            self._lines.append(line)
        return told

    def lines(self):
        """Return the lines that changed the engine, in order."""
        return list(self._lines)


def _thing_of(line):
    """Return the thing of which a line is the written form, or None if there is none."""
    try:
        return read(line)
    except BadText:
        return None


def _is_asked(thing):
    """Tell whether a thing is one of the tuples that a desk takes."""
    if not isinstance(thing, tuple) or thing == () or not isinstance(thing[0], str):
        return False
    if thing[0] not in PARTS or len(thing) != len(PARTS[thing[0]]) + 1:
        return False
    kinds = PARTS[thing[0]]
    return all(_is_of_kind(thing[place + 1], kinds[place]) for place in range(len(kinds)))


def _is_of_kind(thing, kind):
    if kind == "row":
        return is_row(thing)
    if kind == "query":
        return isinstance(thing, tuple)
    if kind == "number":
        return is_integer(thing)
    return isinstance(thing, str)


def _told(engine, thing):
    """Return the written form of what comes out, or the name of the error."""
    action = ACTIONS[thing[0]]
    try:
        return write(action(engine, thing))
    except InvalidArgument:
        return "!InvalidArgument"
    except UnknownTable:
        return "!UnknownTable"
    except UnknownFact:
        return "!UnknownFact"
    except DuplicateFact:
        return "!DuplicateFact"
    except WrongState:
        return "!WrongState"
    except NoStar:
        return "!NoStar"
    except TooLarge:
        return "!TooLarge"
    except UnknownView:
        return "!UnknownView"
    except DuplicateView:
        return "!DuplicateView"
    except NothingToUndo:
        return "!NothingToUndo"
    except QueryError:
        return "!QueryError"


def _add(engine, thing):
    return engine.add(thing[1], thing[2])


def _give(engine, thing):
    engine.give_up(thing[1])
    return ()


def _back(engine, thing):
    engine.bring_back(thing[1])
    return ()


def _define(engine, thing):
    engine.define(thing[1], thing[2])
    return ()


def _undo(engine, thing):
    engine.undo()
    return ()


def _rows(engine, thing):
    return tuple(engine.rows(thing[1]))


def _whys(engine, thing):
    return least_whys(engine, thing[1], thing[2])


def _repairs(engine, thing):
    return repairs(engine, thing[1], thing[2])


def _normal(engine, thing):
    return normal(engine.circuits(), engine.node(thing[1], thing[2]))


def _facts(engine, thing):
    facts = engine.facts()
    return tuple([_fact_told(facts, number) for number in range(facts.count())])


def _fact_told(facts, number):
    table, row = facts.fact(number)
    return table, row, 1 if facts.is_there(number) else 0


ACTIONS = {
    "add": _add, "give": _give, "back": _back, "define": _define, "undo": _undo, "rows": _rows,
    "whys": _whys, "repairs": _repairs, "normal": _normal, "facts": _facts,
}
