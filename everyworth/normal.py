"""Normal forms of nodes: equal worths, witnesses, and factored nodes (points 28 and 29)."""

from everyworth.circuits import ONE, ZERO, Circuits, carried, leaves, nodes_within, worth
from everyworth.errors import NoStar, TooLarge
from everyworth.polynomials import Polynomials, power, variable
from everyworth.whys import facts_of


def normal(circuits, node):
    """Return the normal form of a node without stars."""
    need_no_star(circuits, node)
    own = {fact: variable(fact) for fact in circuits.facts_in(node)}
    return worth(circuits, node, Polynomials(), own)


def need_no_star(circuits, node):
    """Raise NoStar if there is a star anywhere in a node."""
    for part in nodes_within(circuits, [node]):
        if circuits.shown(part)[0] == "star":
            raise NoStar("there is a star in the node")


def same_worth(circuits, one, other):
    """Tell whether two nodes have the same worth in every commutative semiring."""
    return normal(circuits, one) == normal(circuits, other)


def witness(circuits, one, other):
    """Return numbers for which the worths of two nodes differ, or None if there are none."""
    left = _difference(normal(circuits, one), normal(circuits, other))
    if not left:
        return None
    numbers = {}
    for fact in facts_of([circuits.facts_in(one), circuits.facts_in(other)]):
        number = 0
        further = _put_number(left, fact, number)
        # What is left has, in one fact, fewer roots above 0 than it has terms: this ends soon.
        while not further:
            number += 1
            further = _put_number(left, fact, number)
        numbers[fact] = number
        left = further
    return numbers


def _difference(first, second):
    """Return the dict from monomials to coefficients of a polynomial less another one."""
    found = {monomial: coefficient for monomial, coefficient in first}
    for monomial, coefficient in second:
        found[monomial] = found.get(monomial, 0) - coefficient
    return _without_zeros(found)


def _put_number(difference, fact, number):
    """Return the difference in which a fact has a number."""
    found = {}
    for monomial, coefficient in difference.items():
        exponent, rest = _parted(monomial, fact)
        found[rest] = found.get(rest, 0) + coefficient * power(number, exponent)
    return _without_zeros(found)


def _without_zeros(coefficients):
    return {monomial: many for monomial, many in coefficients.items() if many != 0}


def _parted(monomial, fact):
    """Return the exponent of a fact in a monomial, and the monomial without the fact."""
    exponent = sum([many for other, many in monomial if other == fact])
    return exponent, tuple([pair for pair in monomial if pair[0] != fact])


def factored(circuits, node):
    """Return a node of the same normal form in which common facts stand ahead of sums."""
    polynomial = normal(circuits, node)
    draft = Circuits()
    # A node never has more leaves than its normal form: so it may stay as it is.
    try:
        made = _drafted(draft, polynomial)
    except TooLarge:
        return node
    if leaves(circuits, node) <= leaves(draft, made):
        return node
    return carried(draft, made, circuits, {})


def _drafted(draft, polynomial):
    """Return a node of a polynomial, made by taking out one fact after the other.

    A fact that is taken out later stands further outside: so it is a frequent one.
    """
    facts = _rare_first(polynomial)
    places = {facts[place]: place for place in range(len(facts))}
    # For what is left of each monomial the factors of what was taken out of it.
    products = {}
    for monomial, many in polynomial:
        left = tuple(sorted(monomial, key=lambda pair: places[pair[0]]))
        products[left] = [_constant(draft, many)]
    for fact in facts:
        products = _taken_out(draft, fact, products)
    return draft.times(products.get((), [ZERO]))


def _rare_first(polynomial):
    """Return the facts in a polynomial, those in few monomials ahead of those in many."""
    counts = {}
    for monomial, _ in polynomial:
        for fact, _ in monomial:
            counts[fact] = counts.get(fact, 0) + 1
    return sorted(counts, key=lambda fact: (counts[fact], fact))


def _taken_out(draft, fact, products):
    """Take out a fact, which is the first one of each monomial that has it."""
    groups = {}
    for monomial, factors in products.items():
        if monomial and monomial[0][0] == fact:
            groups.setdefault(monomial[1:], []).append((monomial[0][1], factors))
        else:
            groups.setdefault(monomial, []).append((0, factors))
    base = draft.fact(fact)
    return {left: _sum_of_powers(draft, base, groups[left]) for left in groups}


def _sum_of_powers(draft, base, terms):
    """Return the factors of a sum of products times different powers of a base."""
    terms = sorted(terms, reverse=True)
    above, factors = terms[0]
    for exponent, others in terms[1:]:
        inner = draft.times(factors + [_power(draft, base, above - exponent)])
        factors = [draft.plus([inner, draft.times(others)])]
        above = exponent
    return factors + [_power(draft, base, above)] if above > 0 else factors


def _power(draft, base, exponent):
    """Return the node of a power, by squares."""
    node = ONE
    for place in reversed(range(exponent.bit_length())):
        node = draft.times([node, node])
        if exponent >> place & 1:
            node = draft.times([node, base])
    return node


def _constant(draft, number):
    """Return the node of an integer of at least 1, which has no leaves: a sum of powers of 2."""
    two = draft.plus([ONE, ONE])
    zeros = (number & -number).bit_length() - 1
    odd = number >> zeros
    parts = [ONE]
    double = ONE
    for place in range(1, odd.bit_length()):
        double = draft.plus([double, double])
        if odd >> place & 1:
            parts.append(double)
    return draft.times([draft.plus(parts), _power(draft, two, zeros)])
