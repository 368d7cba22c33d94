"""Polynomials over facts: the semiring from which each worth follows (points 6 and 7)."""

from everyworth.errors import NoStar, TooLarge
from everyworth.kinds import ascends, is_natural, is_pair

MOST_MONOMIALS = 400


class Polynomials:
    """Ascending tuples of pairs of a monomial and its coefficient."""

    def zero(self):
        """Return the element that is neutral for plus."""
        return ()

    def one(self):
        """Return the element that is neutral for times."""
        return (((), 1),)

    def plus(self, a, b):
        """Return the sum."""
        found = {}
        for monomial, coefficient in a + b:
            _put(found, monomial, coefficient)
        return _polynomial_of(found)

    def times(self, a, b):
        """Return the product."""
        found = {}
        for first, many in a:
            for second, more in b:
                _put(found, _product_of(first, second), many * more)
        return _polynomial_of(found)

    def star(self, a):
        """Return the star of zero; no other polynomial has one."""
        if a != ():
            raise NoStar("a polynomial that is not zero has no star")
        return self.one()

    def is_element(self, a):
        """Tell whether a thing is an element."""
        if not isinstance(a, tuple) or not all(_is_part(part) for part in a):
            return False
        return ascends([monomial for monomial, coefficient in a])


def _is_part(thing):
    return is_pair(thing) and _is_monomial(thing[0]) and _is_positive(thing[1])


def _is_monomial(thing):
    if not isinstance(thing, tuple) or not all(_is_power(part) for part in thing):
        return False
    return ascends([fact for fact, exponent in thing])


def _is_power(thing):
    return is_pair(thing) and is_natural(thing[0]) and _is_positive(thing[1])


def _is_positive(thing):
    return is_natural(thing) and thing >= 1


def _put(found, monomial, coefficient):
    # Nothing is ever taken away again, so too many monomials now are too many in the end.
    found[monomial] = found.get(monomial, 0) + coefficient
    if len(found) > MOST_MONOMIALS:
        raise TooLarge("there would be more than 400 monomials")


def _polynomial_of(found):
    return tuple(sorted(found.items()))


def _product_of(first, second):
    exponents = {fact: exponent for fact, exponent in first}
    for fact, exponent in second:
        exponents[fact] = exponents.get(fact, 0) + exponent
    return tuple(sorted(exponents.items()))


def variable(fact):
    """Return the polynomial that is a fact alone."""
    return ((((fact, 1),), 1),)


def degree(polynomial):
    """Return the greatest sum of the exponents of a monomial, 0 for zero."""
    return max([_degree_of(monomial) for monomial, coefficient in polynomial], default=0)


def _degree_of(monomial):
    return sum([exponent for fact, exponent in monomial])


def value_at(polynomial, numbers):
    """Return the value where each fact has its number, or 0 if it has none."""
    total = 0
    for monomial, coefficient in polynomial:
        part = coefficient
        for fact, exponent in monomial:
            part = part * power(numbers.get(fact, 0), exponent)
        total = total + part
    return total


def power(base, exponent):
    """Return the power of an integer, the exponent being at least 0."""
    result = 1
    while exponent > 0:
        if exponent & 1:
            result = result * base
        base = base * base
        exponent = exponent >> 1
    return result
