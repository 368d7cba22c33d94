"""Texts of nodes, and reading them into a store (point 35)."""

from everyworth.circuits import Circuits, carried, nodes_within
from everyworth.errors import BadText, TooLarge
from everyworth.kinds import is_decimal

LONGEST_NUMBER = 9


def circuit_text(circuits, node):
    """Return the text of a node."""
    nodes = nodes_within(circuits, [node])
    places = {nodes[place]: place for place in range(len(nodes))}
    return "".join([_line_of(circuits.shown(part), places) for part in nodes])


def _line_of(shown, places):
    word = shown[0]
    if word == "fact":
        numbers = [shown[1]]
    elif word == "star":
        numbers = [places[shown[1]]]
    elif word in ("plus", "times"):
        numbers = [places[part] for part in shown[1]]
    else:
        numbers = []
    return " ".join([word] + [str(number) for number in numbers]) + "\n"


def read_circuit(circuits, text):
    """Make the nodes of a text in a store, and return that of its last line."""
    draft = Circuits()
    try:
        node = _drafted(draft, text.split("\n")[:-1])
    except TooLarge:
        raise BadText("no store has so many nodes, or so many in one") from None
    # A store leaves out, puts in order and makes once: then its text is another one.
    if circuit_text(draft, node) != text:
        raise BadText("the text is not the one of its last node")
    return carried(draft, node, circuits, {})


def _drafted(draft, lines):
    """Make the node of each line in a store without other nodes, and return the last one."""
    nodes = []
    for line in lines:
        words = line.split(" ")
        numbers = [_number_of(word) for word in words[1:]]
        nodes.append(_node_of(draft, words[0], numbers, nodes))
    if not nodes:
        raise BadText("there is no line")
    return nodes[-1]


def _number_of(word):
    if not is_decimal(word) or len(word) > LONGEST_NUMBER:
        raise BadText("a number is malformed, or has more than 9 digits")
    return int(word)


def _node_of(draft, word, numbers, nodes):
    """Return the node of a line that has a word and numbers behind it."""
    if word == "fact" and len(numbers) == 1:
        return draft.fact(numbers[0])
    if any(number >= len(nodes) for number in numbers):
        raise BadText("a number is not the index of a line ahead")
    parts = [nodes[number] for number in numbers]
    if word in ("zero", "plus"):
        return draft.plus(parts)
    if word in ("one", "times"):
        return draft.times(parts)
    if word == "star" and len(parts) == 1:
        return draft.star(parts[0])
    raise BadText("a line does not begin with the word of a node")
