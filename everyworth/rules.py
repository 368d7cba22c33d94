"""Rules: what they mean, which contains which, and which are alike (points 37 to 39)."""

from everyworth.errors import InvalidArgument
from everyworth.facts import Facts
from everyworth.kinds import is_pair
from everyworth.values import is_name, is_value

MOST_ATOMS = 5


def check_rule(rule, tables):
    """Tell whether a tuple is a rule over tables of these arities."""
    if len(rule) != 2:
        return False
    head, atoms = rule
    if not isinstance(head, tuple) or not isinstance(atoms, tuple):
        return False
    if not 1 <= len(atoms) <= MOST_ATOMS or not all(_is_atom(atom, tables) for atom in atoms):
        return False
    known = variables_in(atoms)
    return all(name in known for name in head)


def _is_atom(thing, tables):
    if not is_pair(thing) or not isinstance(thing[0], str) or thing[0] not in tables:
        return False
    terms = thing[1]
    if not isinstance(terms, tuple) or len(terms) != tables[thing[0]]:
        return False
    return all(_is_term(term) for term in terms)


def _is_term(thing):
    if not is_pair(thing):
        return False
    if thing[0] == "var":
        return is_name(thing[1])
    return thing[0] == "value" and is_value(thing[1])


def variables_in(atoms):
    """Return the different variables of some atoms, in the order in which they occur first."""
    terms = [term for table, parts in atoms for term in parts]
    return list({thing: True for kind, thing in terms if kind == "var"})


def rule_meaning(rule, facts, semiring, worths):
    """Return the dict from the rows of a rule to their worths in a semiring."""
    head, atoms = rule
    sums = Walk(rule, facts, semiring, worths).sums(0, {})
    names = [name for name in variables_in(atoms) if name in head]
    found = {}
    for values, one in sums.items():
        given = {names[place]: values[place] for place in range(len(names))}
        found[tuple([given[name] for name in head])] = one
    return found


class Walk:
    """Walks over the ways in which atoms become facts that are there.

    Ways that differ only in variables that are not needed any more are walked together: as times
    distributes over plus, their worths may be summed up first.
    """

    def __init__(self, rule, facts, semiring, worths):
        head, atoms = rule
        self._semiring = semiring
        self._worths = worths
        self._steps = [Step(head, atoms, at, facts) for at in range(len(atoms))]
        self._done = {}

    def sums(self, at, given):
        """Return the sums over all ways of the atoms from a place on.

        They are a dict from the values of those variables of the head that occur first from this
        place on; `given` has the values of those that occurred before and occur again from here on.
        """
        if at == len(self._steps):
            return {(): self._semiring.one()}
        key = (at, tuple(given.values()))
        if key not in self._done:
            self._done[key] = self._summed(at, given)
        return self._done[key]

    def _summed(self, at, given):
        step = self._steps[at]
        found = {}
        for number, values in step.matches(given):
            told = tuple([values[name] for name in step.told])
            left = {name: values[name] for name in step.left}
            for rest, one in self.sums(at + 1, left).items():
                way = self._semiring.times(self._worths[number], one)
                self._put(found, told + rest, way)
        return found

    def _put(self, found, values, way):
        found[values] = self._semiring.plus(found[values], way) if values in found else way


class Step:
    """The step of a walk in which one atom becomes a fact.

    `told` are the variables of the head that occur first in its atom, `left` those of this atom and
    the ones before that occur again behind it.
    """

    def __init__(self, head, atoms, at, facts):
        table, terms = atoms[at]
        before = variables_in(atoms[:at])
        own = variables_in(atoms[at:at + 1])
        self.told = [name for name in _both(own, head) if name not in before]
        self.left = _both(variables_in(atoms[:at + 1]), variables_in(atoms[at + 1:]))
        self._met = _both(own, before)
        # The facts that the atom may become, by the values of the variables that it met before.
        self._choices = {}
        for number, row in facts.rows(table):
            values = _values_of(terms, row)
            if values is not None:
                self._choices.setdefault(self._key(values), []).append((number, values))

    def matches(self, given):
        """Return pairs of a fact that the atom may become and the values of all variables then."""
        choices = self._choices.get(self._key(given), [])
        return [(number, {**given, **values}) for number, values in choices]

    def _key(self, values):
        return tuple([values[name] for name in self._met])


def _both(names, others):
    return [name for name in names if name in others]


def _values_of(terms, row):
    """Return the values of variables with which terms become a row, or None."""
    found = _extended({}, terms, [("value", value) for value in row])
    return None if found is None else {name: target[1] for name, target in found.items()}


def maps_to(first, second):
    """Return a map from the first rule to the second one, or None if there is none."""
    return _found_map(first, second, False)


def _found_map(first, second, once):
    """Return a map; if `once` is True, one under which no two atoms become the same one."""
    if len(first[0]) != len(second[0]):
        return None
    start = _extended({}, _as_terms(first[0]), _as_terms(second[0]))
    return None if start is None else _completed(start, first[1], second[1], once)


def _as_terms(head):
    return [("var", name) for name in head]


def _extended(table, terms, targets):
    """Return a table that puts the targets in for the terms, too, or None."""
    further = dict(table)
    for term, target in zip(terms, targets):
        wanted = term if term[0] == "value" else further.setdefault(term[1], target)
        if wanted != target:
            return None
    return further


def _completed(table, atoms, others, once):
    """Return a table that makes of each atom one of the others, too, or None."""
    if not atoms:
        return table
    for place, (name, targets) in enumerate(others):
        further = _extended(table, atoms[0][1], targets) if name == atoms[0][0] else None
        if further is not None:
            left = others[:place] + others[place + 1:] if once else others
            found = _completed(further, atoms[1:], left, once)
            if found is not None:
                return found
    return None


def is_map(first, second, table):
    """Tell whether a dict from texts to pairs is a map from the first rule to the second one."""
    if sorted(table) != sorted(variables_in(first[1])):
        return False
    if [table[name] for name in first[0]] != _as_terms(second[0]):
        return False
    return all(_image(atom, table) in second[1] for atom in first[1])


def _image(atom, table):
    name, terms = atom
    return name, tuple([table[term[1]] if term[0] == "var" else term for term in terms])


def contained(first, second, tables):
    """Tell whether each row of the first rule is one of the second one, with what shows it."""
    _need_equal_heads(first, second)
    found = maps_to(second, first)
    if found is not None:
        return "yes", found
    facts, row = _frozen(first, second, tables)
    return "no", facts, row


def alike(first, second, tables):
    """Tell whether two rules are the same but for the names of variables, with what shows it."""
    _need_equal_heads(first, second)
    forth = _found_map(first, second, True)
    if forth is None:
        facts, row = _frozen(second, first, tables)
        return "no", facts, row
    if _found_map(second, first, True) is None:
        facts, row = _frozen(first, second, tables)
        return "no", facts, row
    # With maps both ways there are as many atoms here as there, so both reach each atom and each
    # variable: thus there are as many variables, and different ones become different ones.
    return "yes", {name: target[1] for name, target in forth.items()}


def _need_equal_heads(first, second):
    if len(first[0]) != len(second[0]):
        raise InvalidArgument("the heads have different lengths")


def _frozen(rule, other, tables):
    """Return facts that are the atoms of a rule, and the row of its head.

    Each variable has a value of its own that is in neither rule. Thus a way of the other rule
    over these facts is a map from it to the rule.
    """
    taken = {thing: True for kind, thing in _terms_in(rule) + _terms_in(other) if kind == "value"}
    names = variables_in(rule[1])
    free = [number for number in range(len(taken) + len(names)) if number not in taken]
    values = {names[place]: free[place] for place in range(len(names))}
    facts = Facts(tables)
    for table, terms in rule[1]:
        row = tuple([values[thing] if kind == "var" else thing for kind, thing in terms])
        if facts.find(table, row) is None:
            facts.add(table, row)
    return facts, tuple([values[name] for name in rule[0]])


def _terms_in(rule):
    return [term for table, terms in rule[1] for term in terms]
