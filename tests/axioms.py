"""Checks of a semiring object that the tests of several semirings share."""

from everyworth.errors import NoStar

# Things that are no element of a semiring of numbers, sets or polynomials.
STRANGE = [
    True, False, 1.0, 0.5, "", "a", "0", "12", b"", b"1", [], [0], [()], {}, {0: 1}, {1},
    object(), int, (None,), (True,), (False,), ("a",), ([],), ((None,),), ((True,),),
    (("a",),), (([],),), (((),),), ((((),),),), ((((((),),),),),), (1.0,), ((1.0,),),
]


def check_axioms(case, semiring, elements):
    """Check every axiom of point 6 over all triples of the elements."""
    zero, one = semiring.zero(), semiring.one()
    plus, times = semiring.plus, semiring.times
    elements = [zero, one] + [a for a in elements if a not in (zero, one)]
    for a in elements:
        case.assertIs(semiring.is_element(a), True, a)
        case.assertEqual(plus(zero, a), a)
        case.assertEqual(times(one, a), a)
        case.assertEqual(times(zero, a), zero)
        for b in elements:
            both = plus(a, b), times(a, b)
            case.assertEqual(both, (plus(b, a), times(b, a)), (a, b))
            case.assertIs(semiring.is_element(both[0]), True, (a, b))
            case.assertIs(semiring.is_element(both[1]), True, (a, b))
            for c in elements:
                case.assertEqual(plus(a, plus(b, c)), plus(both[0], c), (a, b, c))
                case.assertEqual(times(a, times(b, c)), times(both[1], c), (a, b, c))
                case.assertEqual(times(a, plus(b, c)), plus(both[1], times(a, c)), (a, b, c))


def check_star(case, semiring, a):
    """Check that a has a star that fulfils its equation."""
    star = semiring.star(a)
    case.assertIs(semiring.is_element(star), True, a)
    case.assertEqual(star, semiring.plus(semiring.one(), semiring.times(a, star)), a)


def check_no_star(case, semiring, a):
    """Check that no star of a is told."""
    with case.assertRaises(NoStar):
        semiring.star(a)


def check_no_elements(case, semiring, things):
    """Check that none of the things is an element, and that False itself says so."""
    for thing in things:
        case.assertIs(semiring.is_element(thing), False, repr(thing))


# What stands nowhere in a tuple of naturals, sets, monomials or powers.
SPOILS = [
    True, False, None, -1, -(10 ** 20), 1.0, "", "a", "1", b"1", [], [1], [()], [(0, 1)],
    {}, {0: 1}, {1}, (None,), ("a",), (-1,), (True,), ([],), ((None, 1),), object(),
]


def spoiled(thing, spoils=SPOILS):
    """Return each form of a nested tuple in which one part, or all of it, is spoiled."""
    forms = list(spoils)
    if isinstance(thing, tuple):
        forms.append(list(thing))
        for k, part in enumerate(thing):
            forms += [thing[:k] + (form,) + thing[k + 1:] for form in spoiled(part, spoils)]
    return forms
