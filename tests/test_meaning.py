import random
import unittest

from everyworth.errors import NoStar, TooLarge
from everyworth.facts import Facts
from everyworth.meaning import meaning
from everyworth.mixed import Both
from everyworth.polynomials import Polynomials, variable
from everyworth.semirings import Costs, Events, Levels, Numbers
from everyworth.whys import Whys

from tests.plain import capped, field, plain_meaning, some_facts, some_query, some_views

EDGE, NODE = ("table", "edge"), ("table", "node")
X = ("var", "x")


def store(edges=(), nodes=()):
    facts = Facts([("edge", 2), ("node", 1), ("trio", 3)])
    for row in edges:
        facts.add("edge", row)
    for value in nodes:
        facts.add("node", (value,))
    return facts


def numbered(facts, semiring, query, numbers, views=None):
    """The meaning, the facts that are there having the worths of a list, one after the other."""
    worths = {k: numbers[k] for k in range(facts.count()) if facts.is_there(k)}
    return meaning(query, facts, views or {}, semiring, worths)


def named(facts, query, views=None):
    """The meaning in polynomials, each fact being its own variable."""
    return numbered(facts, Polynomials(), query, [variable(k) for k in range(facts.count())], views)


def told(*monomials):
    """A polynomial: of each monomial the facts, each as often as it counts."""
    total = ()
    for facts in monomials:
        part = Polynomials().one()
        for k in facts:
            part = Polynomials().times(part, variable(k))
        total = Polynomials().plus(total, part)
    return total


class KindsTest(unittest.TestCase):
    def setUp(self):
        self.facts = store([(1, 2), (2, 2), (2, "a"), (1, "a")], [2, "a", 7])

    def check(self, query, rows):
        self.assertEqual(named(self.facts, query), rows)
        numbers = [2, 3, 5, 7, 11, 13, 17]
        plain = plain_meaning(query, self.facts, {}, Numbers(), dict(enumerate(numbers)))
        self.assertEqual(numbered(self.facts, Numbers(), query, numbers), plain)
        costs = [None, 3, 0, 4, 1, None, 2]
        plain = plain_meaning(query, self.facts, {}, Costs(), dict(enumerate(costs)))
        self.assertEqual(numbered(self.facts, Costs(), query, costs), plain)

    def test_table(self):
        self.check(NODE, {(2,): told([4]), ("a",): told([5]), (7,): told([6])})
        self.check(("table", "trio"), {})

    def test_row_and_none(self):
        self.check(("row", (1, "b")), {(1, "b"): told([])})
        self.check(("row", ()), {(): told([])})
        for arity in range(7):
            self.check(("none", arity), {})

    def test_pick(self):
        self.check(("pick", EDGE, 0, 2), {(2, 2): told([1]), (2, "a"): told([2])})
        self.check(("pick", EDGE, 1, "a"), {(2, "a"): told([2]), (1, "a"): told([3])})
        self.check(("pick", EDGE, 1, "2"), {})
        self.check(("pick", EDGE, 0, 1), {(1, 2): told([0]), (1, "a"): told([3])})

    def test_same(self):
        self.check(("same", EDGE, 0, 1), {(2, 2): told([1])})
        self.check(("same", EDGE, 1, 0), {(2, 2): told([1])})
        self.check(("same", NODE, 0, 0), {(2,): told([4]), ("a",): told([5]), (7,): told([6])})

    def test_keep(self):
        self.check(("keep", EDGE, (0,)), {(1,): told([0], [3]), (2,): told([1], [2])})
        self.check(("keep", EDGE, ()), {(): told([0], [1], [2], [3])})
        self.check(("keep", NODE, (0, 0)), {
            (2, 2): told([4]), ("a", "a"): told([5]), (7, 7): told([6]),
        })
        self.check(("keep", ("pick", EDGE, 0, 1), (1, 0, 1)), {
            (2, 1, 2): told([0]), ("a", 1, "a"): told([3]),
        })
        self.check(("keep", ("none", 2), ()), {})

    def test_join(self):
        self.check(("join", EDGE, NODE, ((1, 0),)), {
            (1, 2, 2): told([0, 4]), (2, 2, 2): told([1, 4]), (2, "a", "a"): told([2, 5]),
            (1, "a", "a"): told([3, 5]),
        })
        self.check(("join", NODE, EDGE, ((0, 0), (0, 1))), {(2, 2, 2): told([1, 4])})
        self.check(("join", ("pick", NODE, 0, 7), ("pick", EDGE, 0, 2), ()), {
            (7, 2, 2): told([1, 6]), (7, 2, "a"): told([2, 6]),
        })
        self.check(("join", NODE, ("none", 1), ()), {})
        self.check(("join", ("row", (5,)), ("same", EDGE, 0, 1), ()), {(5, 2, 2): told([1])})

    def test_join_with_itself(self):
        self.check(("join", NODE, NODE, ((0, 0),)), {
            (2, 2): told([4, 4]), ("a", "a"): told([5, 5]), (7, 7): told([6, 6]),
        })

    def test_union(self):
        self.check(("union", NODE, ("keep", EDGE, (1,))), {
            (2,): told([4], [0], [1]), ("a",): told([5], [2], [3]), (7,): told([6]),
        })
        self.check(("union", NODE, ("row", (8,))), {
            (2,): told([4]), ("a",): told([5]), (7,): told([6]), (8,): told([]),
        })
        self.check(("union", ("row", (2,)), ("pick", NODE, 0, 2)), {(2,): told([], [4])})
        self.check(("union", ("row", ()), ("row", ())), {(): told([], [])})

    def test_paths(self):
        query = ("paths", ("union", ("pick", EDGE, 0, 1), ("pick", EDGE, 1, "a")))
        # The row (1, "a") stands on both sides of the union.
        self.check(query, {
            (1, 2): told([0]), (2, "a"): told([2]), (1, "a"): told([3], [3], [0, 2]),
        })

    def test_repeat(self):
        step = ("keep", ("join", X, EDGE, ((1, 0),)), (0, 3))
        base = ("pick", EDGE, 0, 1)
        ways = [[], [[0]], [[0], [0, 1]], [[0], [0, 1], [0, 1, 1]]]
        ends = [[], [[3]], [[3], [0, 2]], [[3], [0, 2], [0, 1, 2]]]
        for n in range(1, 4):
            self.check(("repeat", "x", base, step, n), {
                (1, 2): told(*ways[n]), (1, "a"): told(*ends[n]),
            })
        self.check(("repeat", "x", base, step, 0), {})


class FactsTest(unittest.TestCase):
    def test_facts_given_up(self):
        facts = store([(1, 2), (2, 3), (1, 3)])
        facts.give_up(1)
        self.assertEqual(numbered(facts, Numbers(), EDGE, [4, 0, 6]), {(1, 2): 4, (1, 3): 6})
        self.assertEqual(numbered(facts, Numbers(), ("paths", EDGE), [4, 0, 6]), {
            (1, 2): 4, (1, 3): 6,
        })
        facts.bring_back(1)
        self.assertEqual(numbered(facts, Numbers(), ("paths", EDGE), [4, 5, 6]), {
            (1, 2): 4, (2, 3): 5, (1, 3): 26,
        })

    def test_rows_with_worth_zero_are_rows(self):
        facts = store([(1, 2), (2, 3)], [1, 2])
        zeros = [0, 0, 0, 0]
        for query, rows in (
            (EDGE, [(1, 2), (2, 3)]), (("pick", EDGE, 0, 1), [(1, 2)]), (("keep", EDGE, ()), [()]),
            (("join", NODE, EDGE, ((0, 0),)), [(1, 1, 2), (2, 2, 3)]),
            (("union", NODE, ("keep", EDGE, (1,))), [(1,), (2,), (3,)]),
            (("paths", EDGE), [(1, 2), (2, 3), (1, 3)]),
            (("repeat", "x", NODE, ("keep", ("join", X, EDGE, ((0, 0),)), (2,)), 3),
             [(1,), (2,), (3,)]),
        ):
            self.assertEqual(numbered(facts, Numbers(), query, zeros), {row: 0 for row in rows})
            nothing = {row: None for row in rows}
            self.assertEqual(numbered(facts, Costs(), query, [None] * 4), nothing)
            self.assertEqual(numbered(facts, Whys(), query, [()] * 4), {row: () for row in rows})

    def test_what_comes_to_zero_is_a_row(self):
        facts = store([(1, 2), (1, 3)])
        self.assertEqual(numbered(facts, field(5), ("keep", EDGE, (0,)), [2, 3]), {(1,): 0})
        self.assertEqual(
            numbered(facts, Events(2), ("join", EDGE, EDGE, ((1, 1), (1, 1))), [1, 2]),
            {(1, 2, 1, 2): 1, (1, 3, 1, 3): 2},
        )
        query = ("join", ("pick", EDGE, 1, 2), ("pick", EDGE, 1, 3), ())
        self.assertEqual(numbered(facts, Events(2), query, [1, 2]), {(1, 2, 1, 3): 0})

    def test_what_is_passed_is_not_changed_and_what_is_returned_belongs_to_the_caller(self):
        facts = store([(1, 2), (2, 3)])
        views, worths = {"v": EDGE}, {0: 1, 1: 2}
        for query in (EDGE, ("view", "v"), ("paths", ("view", "v")), ("union", EDGE, EDGE),
                      ("repeat", "x", EDGE, X, 1)):
            first = meaning(query, facts, views, Numbers(), worths)
            again = dict(first)
            first[(9, 9)] = 9
            first.pop((1, 2))
            self.assertEqual(meaning(query, facts, views, Numbers(), worths), again)
        self.assertEqual((views, worths, facts.rows("edge")),
                         ({"v": EDGE}, {0: 1, 1: 2}, [(0, (1, 2)), (1, (2, 3))]))


class ViewsTest(unittest.TestCase):
    def test_views_over_views(self):
        facts = store([(1, 2), (2, 3)], [3])
        views = {
            "ends": ("keep", ("join", ("view", "two"), NODE, ((1, 0),)), (0,)),
            "two": ("keep", ("join", EDGE, EDGE, ((1, 0),)), (0, 3)), "same": ("view", "ends"),
        }
        for name in ("ends", "same"):
            self.assertEqual(named(facts, ("view", name), views), {(1,): told([0, 1, 2])})
        both = ("join", ("view", "two"), ("view", "same"), ((0, 0),))
        self.assertEqual(named(facts, both, views), {(1, 3, 1): told([0, 0, 1, 1, 2])})

    def test_a_view_that_is_not_used_means_nothing(self):
        facts = store([(1, 1)])
        views = {"bad": ("paths", EDGE), "good": EDGE}
        self.assertEqual(numbered(facts, Numbers(), ("view", "good"), [5], views), {(1, 1): 5})
        idle = ("repeat", "x", ("view", "bad"), ("view", "bad"), 0)
        self.assertEqual(numbered(facts, Numbers(), idle, [5], views), {})
        with self.assertRaises(NoStar):
            numbered(facts, Numbers(), ("view", "bad"), [5], views)

    def test_a_variable_and_a_view_with_one_name(self):
        facts = store([(1, 2)], [7])
        views = {"x": ("keep", NODE, (0, 0))}
        query = ("repeat", "x", EDGE, ("union", X, ("view", "x")), 2)
        self.assertEqual(named(facts, query, views), {(1, 2): told([0], [0]),
                                                      (7, 7): told([1], [1])})

    def test_a_long_chain_of_views(self):
        facts = store([], [1])
        views, last = {}, NODE
        for k in range(300):
            name = "v" + "".join(chr(97 + (k // 26 ** p) % 26) for p in range(3))
            query = last
            for _ in range(5):
                query = ("pick", query, 0, 1)
            views[name] = ("union", query, NODE) if k < 30 else query
            last = ("view", name)
        self.assertEqual(numbered(facts, Numbers(), last, [2], views), {(1,): 62})


class RepeatTest(unittest.TestCase):
    def test_rounds(self):
        facts = store([], [1])
        doubled = ("repeat", "x", NODE, ("union", X, X), 3)
        # X1 = n, X2 = n + 2 n, X3 = n + 2 (n + 2 n)
        self.assertEqual(numbered(facts, Numbers(), doubled, [5]), {(1,): 35})
        for n in range(9):
            query = ("repeat", "x", NODE, X, n)
            rows = {(1,): 5 * n} if n else {}
            self.assertEqual(numbered(facts, Numbers(), query, [5]), rows)

    def test_a_step_without_its_variable(self):
        facts = store([], [1, 2])
        query = ("repeat", "x", ("pick", NODE, 0, 1), ("pick", NODE, 0, 2), 1)
        self.assertEqual(named(facts, query), {(1,): told([0]), (2,): told([1])})

    def test_rows_that_come_later(self):
        facts = store([(1, 2), (2, 3), (3, 4), (4, 5)], [1])
        step = ("keep", ("join", X, EDGE, ((0, 0),)), (2,))
        for n in range(9):
            rows = numbered(facts, Costs(), ("repeat", "x", NODE, step, n), [1, 1, 1, 1, 0])
            self.assertEqual(rows, {(k + 1,): k for k in range(min(n, 5))})

    def test_a_row_that_comes_only_behind_a_round_that_changes_no_worth(self):
        # In numbers the row 2 has worth 0, and still leads to the row 3.
        facts = store([(1, 2), (2, 3)], [1])
        step = ("keep", ("join", X, EDGE, ((0, 0),)), (2,))
        rows = numbered(facts, Numbers(), ("repeat", "x", NODE, step, 3), [0, 1, 1])
        self.assertEqual(rows, {(1,): 1, (2,): 0, (3,): 0})

    def test_nested_repeats(self):
        facts = store([], [1])
        inner = ("repeat", "y", X, ("union", ("var", "y"), NODE), 2)
        # Y1 = x + n, Y2 = x + (x + n) + n; with X0 = 0: X1 = n + 2 n, X2 = n + 2 X1 + 2 n.
        query = ("repeat", "x", NODE, inner, 2)
        self.assertEqual(numbered(facts, Numbers(), query, [1]), {(1,): 9})
        again = ("repeat", "x", X, ("union", X, NODE), 2)
        self.assertEqual(numbered(facts, Numbers(), ("repeat", "x", NODE, again, 2), [1]), {(1,): 9})
        idle = ("repeat", "x", NODE, ("repeat", "y", X, X, 0), 3)
        self.assertEqual(numbered(facts, Numbers(), idle, [4]), {(1,): 4})
        base = ("repeat", "x", ("repeat", "x", NODE, X, 3), ("union", X, X), 2)
        self.assertEqual(numbered(facts, Numbers(), base, [1]), {(1,): 9})

    def test_deep_repeats_without_rows_end(self):
        query = X
        for _ in range(11):
            query = ("repeat", "x", ("none", 1), query, 8)
        query = ("repeat", "x", ("none", 1), query[3], 8)
        self.assertEqual(numbered(store([], [1]), Numbers(), query, [1]), {})

    def test_no_round_needs_no_star(self):
        facts = store([(1, 1)])
        loop = ("paths", EDGE)
        self.assertEqual(numbered(facts, Numbers(), ("repeat", "x", loop, loop, 0), [1]), {})
        with self.assertRaises(NoStar):
            numbered(facts, Numbers(), ("repeat", "x", loop, EDGE, 1), [1])
        with self.assertRaises(NoStar):
            numbered(facts, Numbers(), ("repeat", "x", EDGE, ("paths", X), 2), [1])
        query = ("repeat", "x", EDGE, ("paths", X), 1)
        self.assertEqual(numbered(facts, Numbers(), query, [1]), {(1, 1): 1})


class PathsTest(unittest.TestCase):
    def test_without_cycles(self):
        facts = store([(1, 2), (2, 3), (1, 3), (3, 4)])
        self.assertEqual(named(facts, ("paths", EDGE)), {
            (1, 2): told([0]), (2, 3): told([1]), (3, 4): told([3]), (1, 3): told([2], [0, 1]),
            (2, 4): told([1, 3]), (1, 4): told([2, 3], [0, 1, 3]),
        })

    def test_values_in_order(self):
        facts = store([("a", -1), (-1, "Z"), ("Z", 10)])
        self.assertEqual(named(facts, ("paths", EDGE)), {
            ("a", -1): told([0]), (-1, "Z"): told([1]), ("Z", 10): told([2]),
            ("a", "Z"): told([0, 1]), (-1, 10): told([1, 2]), ("a", 10): told([0, 1, 2]),
        })

    def test_a_loop(self):
        facts = store([(1, 1), (1, 2), (3, 1)])
        rows = numbered(facts, field(7), ("paths", EDGE), [3, 2, 5])
        # The star of 3 is 1 / (1 - 3) = 3.
        self.assertEqual(rows, {(1, 1): 2, (1, 2): 6, (3, 1): 1, (3, 2): 2})

    def test_a_cycle_of_two(self):
        facts = store([(1, 2), (2, 1)])
        self.assertEqual(numbered(facts, Costs(), ("paths", EDGE), [3, 4]), {
            (1, 2): 3, (2, 1): 4, (1, 1): 7, (2, 2): 7,
        })
        self.assertEqual(numbered(facts, Whys(), ("paths", EDGE), [((0,),), ((1,),)]), {
            (1, 2): ((0,),), (2, 1): ((1,),), (1, 1): ((0, 1),), (2, 2): ((0, 1),),
        })

    def test_a_star_that_is_missing(self):
        for edges in ([(1, 1)], [(1, 2), (2, 1)], [(1, 2), (2, 3), (3, 1)], [(5, 6), (2, 2)]):
            facts = store(edges)
            ones = [1] * len(edges)
            with self.assertRaises(NoStar):
                numbered(facts, Numbers(), ("paths", EDGE), ones)
            with self.assertRaises(NoStar):
                named(facts, ("paths", EDGE))
            with self.assertRaises(NoStar):
                numbered(facts, field(5), ("paths", EDGE), ones)
            pairs = [(1, 1)] * len(edges)
            with self.assertRaises(NoStar):
                numbered(facts, Both(Costs(), Numbers()), ("paths", EDGE), pairs)

    def test_a_star_that_is_not_needed(self):
        facts = store([(1, 2), (2, 3), (1, 3)])
        rows = numbered(facts, field(5), ("paths", EDGE), [1, 1, 1])
        self.assertEqual(rows, {(1, 2): 1, (2, 3): 1, (1, 3): 2})

    def test_a_cycle_of_worth_zero_has_a_star(self):
        facts = store([(1, 2), (2, 1), (2, 2)])
        self.assertEqual(numbered(facts, Numbers(), ("paths", EDGE), [3, 0, 0]), {
            (1, 1): 0, (1, 2): 3, (2, 1): 0, (2, 2): 0,
        })

    def test_a_star_of_what_comes_in_between(self):
        # The loop at 2 comes to 3 * 2 = 6 = 1 only when 1 is passed, and 1 has no star.
        facts = store([(1, 2), (2, 1)])
        with self.assertRaises(NoStar):
            numbered(facts, field(5), ("paths", EDGE), [3, 2])
        rows = numbered(facts, field(5), ("paths", EDGE), [3, 3])
        # 9 is 4, and its star is 1 / (1 - 4) = 3.
        self.assertEqual(rows, {(1, 2): 4, (2, 1): 4, (1, 1): 2, (2, 2): 2})

    def test_the_equation_from_both_sides(self):
        chance = random.Random(4)
        rings = [(field(5), 5), (field(7), 7), (capped(3), 4), (Levels(3), 4), (Events(4), 16)]
        done = 0
        for _ in range(300):
            semiring, size = chance.choice(rings)
            facts = store()
            for _ in range(chance.randint(1, 10)):
                row = chance.randint(0, 4), chance.randint(0, 4)
                if facts.find("edge", row) is None:
                    facts.add("edge", row)
            worths = {k: chance.randrange(size) for k in range(facts.count())}
            edges = {row: worths[k] for k, row in facts.rows("edge")}
            try:
                rows = meaning(("paths", EDGE), facts, {}, semiring, worths)
            except NoStar:
                continue
            done += 1
            self.check_equation(semiring, edges, rows)
        self.assertGreater(done, 150)

    def check_equation(self, semiring, edges, rows):
        zero, values = semiring.zero(), range(5)
        for a in values:
            for b in values:
                left = right = edges.get((a, b), zero)
                there = (a, b) in edges
                for c in values:
                    part = semiring.times(edges.get((a, c), zero), rows.get((c, b), zero))
                    left = semiring.plus(left, part)
                    part = semiring.times(rows.get((a, c), zero), edges.get((c, b), zero))
                    right = semiring.plus(right, part)
                    there = there or ((a, c) in edges and (c, b) in rows)
                self.assertEqual(rows.get((a, b), zero), left)
                self.assertEqual(rows.get((a, b), zero), right)
                self.assertEqual((a, b) in rows, there)


class ErrorsTest(unittest.TestCase):
    def test_too_large(self):
        facts = store([], range(401))
        query = ("keep", NODE, ())
        self.assertEqual(len(named(facts, ("keep", ("table", "node"), (0,)))), 401)
        with self.assertRaises(TooLarge):
            named(facts, query)
        with self.assertRaises(TooLarge):
            numbered(facts, Whys(), query, [((k,),) for k in range(401)])
        facts.give_up(7)
        self.assertEqual(len(named(facts, query)[()]), 400)

    def test_no_star_of_the_first_part_that_lacks_one(self):
        facts = store([(1, 1)])
        for query in (("keep", ("paths", EDGE), ()), ("union", EDGE, ("paths", EDGE)),
                      ("join", ("none", 2), ("paths", EDGE), ()), ("pick", ("paths", EDGE), 0, 9)):
            with self.assertRaises(NoStar):
                numbered(facts, Numbers(), query, [1])


class ManyTest(unittest.TestCase):
    def test_against_a_plain_reckoning(self):
        chance = random.Random(5)
        rings = [
            (field(5), range(5)), (field(7), range(7)), (capped(3), range(4)),
            (Numbers(), range(4)), (Costs(), [None, 0, 1, 2, 5]), (Levels(3), range(4)),
            (Events(4), range(16)), (Whys(), [(), ((),), ((0,), (1, 2)), ((3,),)]),
            (Polynomials(), [(), told([]), told([0], [1, 1]), told([2])]),
            (Both(field(5), Costs()), [(0, None), (1, 0), (3, 2), (2, 5)]),
        ]
        for _ in range(600):
            facts = some_facts(chance, chance.randint(2, 18))
            views, arities = some_views(chance, chance.randint(0, 4), 5)
            query = some_query(chance, chance.randint(0, 4), chance.randint(2, 9), arities)
            for semiring, worths in chance.sample(rings, 2):
                told_worths = {k: chance.choice(list(worths)) for k in range(facts.count())}
                self.check(query, facts, views, semiring, told_worths)

    def check(self, query, facts, views, semiring, worths):
        try:
            plain = plain_meaning(query, facts, views, semiring, worths)
        except TooLarge:
            return
        except NoStar:
            # A part may be too large as well: which of both errors comes first is not told.
            with self.assertRaises((NoStar, TooLarge)):
                meaning(query, facts, views, semiring, worths)
            return
        self.assertEqual(meaning(query, facts, views, semiring, worths), plain, query)
