import itertools
import random
import unittest
from collections import Counter

from everyworth.errors import InvalidArgument, TooLarge
from everyworth.facts import Facts
from everyworth.polynomials import Polynomials, variable
from everyworth.rules import alike, check_rule, contained, is_map, maps_to, rule_meaning
from everyworth.semirings import Costs, Events, Numbers
from everyworth.whys import Whys

from tests.plain import TABLES, capped, field, plus_into, some_facts
from tests.test_notation import nested

ARITIES = dict(TABLES)
WORDS = {"edge": 2, "node": 1, "trio": 3, "e": 2}


def term(word):
    """A variable for a text of letters, and a value for a number or a text in bars."""
    if isinstance(word, int):
        return "value", word
    return ("value", word[1:-1]) if word.startswith("|") else ("var", word)


def rule(head, *atoms):
    """A rule from lists of words: the head, and each atom with its table first."""
    return tuple(head), tuple((table, tuple(term(word) for word in words))
                              for table, *words in atoms)


def variables(one):
    return sorted({thing for _, terms in one[1] for kind, thing in terms if kind == "var"})


def terms_of(one):
    return sorted({part for _, terms in one[1] for part in terms}, key=repr)


def plain_meaning_of(one, facts, semiring, worths):
    """The meaning by the words of point 37: all ways to choose a fact for each atom."""
    head, atoms = one
    found = {}
    for chosen in itertools.product(*(facts.rows(table) for table, _ in atoms)):
        values, product = {}, semiring.one()
        fits = True
        for (number, row), (_, terms) in zip(chosen, atoms):
            for (kind, thing), value in zip(terms, row):
                wanted = thing if kind == "value" else values.setdefault(thing, value)
                fits = fits and wanted == value
            product = semiring.times(product, worths[number])
        if fits:
            plus_into(semiring, found, tuple(values[name] for name in head), product)
    return found


def put_into(one, table):
    """A rule with a map put in: its head as terms, and its atoms."""
    head = [table[name] for name in one[0]]
    atoms = [
        (name, tuple(table[thing] if kind == "var" else (kind, thing) for kind, thing in terms))
        for name, terms in one[1]
    ]
    return head, atoms


def plain_is_map(first, second, table):
    if sorted(table) != variables(first):
        return False
    head, atoms = put_into(first, table)
    return head == [("var", name) for name in second[0]] and all(a in second[1] for a in atoms)


def plain_maps(first, second):
    names = variables(first)
    tables = (dict(zip(names, chosen))
              for chosen in itertools.product(terms_of(second), repeat=len(names)))
    return [table for table in tables if plain_is_map(first, second, table)]


def plain_renamings(first, second):
    """The maps to different variables with which the atoms become those of the other."""
    names, others = variables(first), variables(second)
    found = []
    for chosen in itertools.permutations(others, len(names)):
        table = {name: ("var", other) for name, other in zip(names, chosen)}
        head, atoms = put_into(first, table)
        if head == [("var", name) for name in second[0]] and Counter(atoms) == Counter(second[1]):
            found.append({name: other for name, other in zip(names, chosen)})
    return found


def some_rule(chance, most=4, width=None, names="xyzuv", tables=("edge", "edge", "edge", "node")):
    """A rule made at random, with a head of so many variables."""
    atoms = []
    for _ in range(chance.randint(1, most)):
        table = chance.choice(tables)
        words = [chance.choice(names[:chance.randint(1, len(names))]) if chance.randrange(8)
                 else chance.choice([0, 1, "|a|"]) for _ in range(WORDS[table])]
        atoms.append([table] + words)
    known = variables(rule((), *atoms))
    if width is None:
        width = chance.randrange(3)
    return rule([chance.choice(known) for _ in range(width)] if known else (), *atoms)


def changed_rule(chance, one):
    """A rule near another one: renamed, mixed, with an atom more or less, or other terms."""
    head, atoms = one
    names = variables(one)
    table = {name: ("var", name) for name in names}
    kind = chance.randrange(6)
    if kind == 0:
        table = dict(zip(names, [("var", other) for other in chance.sample("abcdefgh", len(names))]))
    if kind == 1:
        atoms = tuple(chance.sample(atoms, len(atoms)))
    if kind == 2:
        atoms += (chance.choice(atoms),)
    if kind == 3:
        atoms = atoms[:-1] if chance.randrange(2) else atoms[1:]
    if kind == 4 and names:
        table[chance.choice(names)] = ("var", chance.choice(names))
    if kind == 5 and names:
        table[chance.choice(names)] = ("value", chance.choice([0, "a"]))
    terms, atoms = put_into((head, atoms), table)
    changed = tuple(thing for _, thing in terms), tuple(atoms)
    return changed if check_rule(changed, ARITIES) else one


def some_pairs(many, most=4):
    """Pairs of rules with heads of one length, many of them near each other."""
    seed = 0
    while many > 0:
        chance = random.Random(seed)
        seed += 1
        first = some_rule(chance, most)
        second = some_rule(chance, most, len(first[0])) if chance.randrange(3) == 0 else first
        for _ in range(chance.randrange(4)):
            second = changed_rule(chance, second)
        if len(first[0]) == len(second[0]):
            many -= 1
            yield first, second


class CheckTest(unittest.TestCase):
    def test_rules(self):
        for one in (
            rule("x", ["edge", "x", "y"]), rule("xy", ["edge", "x", "y"]), rule("", ["node", "x"]),
            rule("xx", ["edge", "x", "y"]), rule("yxy", ["edge", "x", "y"]), rule("", ["node", 5]),
            rule("", ["edge", "|a b|", -7]), rule("x", ["trio", "x", "x", "||"]),
            rule("z", *[["edge", "x", "z"]] * 5), rule("z", ["edge", "x", "y"], ["node", "z"]),
            rule(["abcdefghijkl"], ["node", "abcdefghijkl"]), rule("", ["node", 10 ** 40]),
            rule("", ["node", "|" + "x" * 20 + "|"]), rule(["var"], ["node", "var"]),
            rule("xyzxyzxyz", ["trio", "x", "y", "z"]),
        ):
            self.assertIs(check_rule(one, ARITIES), True, one)

    def test_what_is_no_rule(self):
        x, fine = ("var", "x"), (("node", (("var", "x"),)),)
        for one in (
            (), (("x",),), (("x",), fine, ()), ("x", fine), (5, fine), (("x",), "node"), (("x",), 5),
            # The head: names of variables that are in an atom.
            (("y",), fine), (("x", "y"), fine), ((x,), fine), ((5,), fine), (("",), fine),
            (("X",), fine), (("node",), fine), ((("x",),), fine), (((),), fine),
            (("v",), (("node", (("value", "v"),)),)), (("x",), (("node", (("value", "x"),)),)),
            # The atoms: one to five pairs.
            (("x",), ()), ((), ()), (("x",), fine * 6), (("x",), (fine,)), (("x",), fine[0]),
            (("x",), ((),)), (("x",), (("node",),)), (("x",), (("node", (x,), ()),)),
            (("x",), (("node", x),)), (("x",), ("node",)), (("x",), (5,)), (("x",), fine + ((),)),
            # The tables.
            (("x",), (("nodes", (x,)),)), (("x",), (("", (x,)),)), (("x",), ((5, (x,)),)),
            (("x",), ((("node",), (x,)),)), (("x",), ((("edge", 2), (x, x)),)),
            (("x",), ((nested(30), (x,)),)), (("x",), (("node", (nested(30),)),)),
            # As many terms as the arity.
            (("x",), (("edge", (x,)),)), (("x",), (("node", (x, x)),)), (("x",), (("node", ()),)),
            (("x",), (("trio", (x, x)),)), (("x",), (("node", 5),)), (("x",), (("node", "x"),)),
            # The terms.
            (("x",), fine + (("node", ("x",)),)), (("x",), fine + (("node", (5,)),)),
            (("x",), fine + (("node", ((),)),)), (("x",), fine + (("node", (("var",),)),)),
            (("x",), fine + (("node", (("var", "x", "y"),)),)),
            (("x",), fine + (("node", (("val", "x"),)),)), (("x",), fine + (("node", (("x", "var"),)),)),
            (("x",), fine + (("node", ((5, 5),)),)), (("x",), fine + (("node", ((("var",), "x"),)),)),
            # The names of variables and the values.
            (("x",), fine + (("node", (("var", "X"),)),)), (("x",), fine + (("node", (("var", ""),)),)),
            (("x",), fine + (("node", (("var", 5),)),)), (("x",), fine + (("node", (("var", "x1"),)),)),
            (("x",), fine + (("node", (("var", "abcdefghijklm"),)),)),
            (("x",), fine + (("node", (("var", ("x",)),)),)),
            (("x",), fine + (("node", (("value", ()),)),)),
            (("x",), fine + (("node", (("value", (5,)),)),)),
            (("x",), fine + (("node", (("value", "x" * 21),)),)),
            (("x",), fine + (("node", (("value", "%"),)),)),
            (("x",), fine + (("node", (("value", "\n"),)),)),
        ):
            self.assertIs(check_rule(one, ARITIES), False, one)
        self.assertIs(check_rule((("x",), fine), {"edge": 2}), False)
        self.assertIs(check_rule((("x",), fine), {"node": 2}), False)
        self.assertIs(check_rule((("x",), fine), {}), False)

    def test_each_term_is_looked_at(self):
        fine = ("var", "x"), ("value", 1), ("var", "y")
        self.assertIs(check_rule(((), (("trio", fine),)), ARITIES), True)
        for k in range(3):
            for wrong in (("var", "X"), ("value", ()), "x", (), ("val", 1), ("var", "x", "y")):
                terms = fine[:k] + (wrong,) + fine[k + 1:]
                self.assertIs(check_rule(((), (("trio", terms),)), ARITIES), False)

    def test_each_atom_is_looked_at(self):
        fine = rule("x", *[["node", "x"]] * 5)
        for k in range(5):
            for atom in (("node", ()), ("edgy", (("var", "x"),)), ("node", (("var", "X"),))):
                atoms = fine[1][:k] + (atom,) + fine[1][k + 1:]
                self.assertIs(check_rule((("x",), atoms), ARITIES), False)


class MeaningTest(unittest.TestCase):
    def setUp(self):
        self.facts = Facts(TABLES)
        for row in ((1, 2), (2, 3), (2, 2), (1, "a"), (3, 1)):
            self.facts.add("edge", row)
        self.facts.add("node", (2,))
        self.facts.give_up(4)
        self.own = {k: variable(k) for k in range(6)}

    def mean(self, one):
        return rule_meaning(one, self.facts, Polynomials(), self.own)

    def test_small_ones(self):
        two = self.mean(rule("xz", ["edge", "x", "y"], ["edge", "y", "z"]))
        self.assertEqual(two, {
            (1, 3): ((((0, 1), (1, 1)), 1),), (1, 2): ((((0, 1), (2, 1)), 1),),
            (2, 3): ((((1, 1), (2, 1)), 1),), (2, 2): ((((2, 2),), 1),),
        })
        self.assertEqual(self.mean(rule("x", ["edge", "x", "x"])), {(2,): variable(2)})
        self.assertEqual(self.mean(rule("y", ["edge", 1, "y"])),
                         {(2,): variable(0), ("a",): variable(3)})
        self.assertEqual(self.mean(rule("y", ["edge", "y", "|a|"])), {(1,): variable(3)})
        self.assertEqual(self.mean(rule("", ["edge", 3, 1])), {})
        self.assertEqual(self.mean(rule("", ["edge", 1, 2])), {(): variable(0)})
        self.assertEqual(self.mean(rule("yxy", ["edge", "x", "y"], ["node", "x"])), {
            (3, 2, 3): ((((1, 1), (5, 1)), 1),), (2, 2, 2): ((((2, 1), (5, 1)), 1),)})
        self.assertEqual(self.mean(rule("xyxyxyxy", ["edge", "x", "y"], ["edge", "y", "y"])), {
            (1, 2) * 4: ((((0, 1), (2, 1)), 1),), (2, 2) * 4: ((((2, 2),), 1),)})

    def test_atoms_that_occur_twice_or_become_one_fact(self):
        self.assertEqual(self.mean(rule("x", ["node", "x"], ["node", "x"])),
                         {(2,): ((((5, 2),), 1),)})
        self.assertEqual(self.mean(rule("", ["node", "x"], ["node", "y"], ["node", 2])),
                         {(): ((((5, 3),), 1),)})
        self.assertEqual(self.mean(rule("x", ["edge", "x", "y"], ["edge", "x", "z"])), {
            (1,): ((((0, 1), (3, 1)), 2), (((0, 2),), 1), (((3, 2),), 1)),
            (2,): ((((1, 1), (2, 1)), 2), (((1, 2),), 1), (((2, 2),), 1)),
        })

    def test_worths_that_are_zero(self):
        one = rule("x", ["edge", "x", "y"])
        worths = {k: 0 for k in range(6)}
        self.assertEqual(rule_meaning(one, self.facts, Numbers(), worths), {(1,): 0, (2,): 0})
        self.assertEqual(rule_meaning(one, self.facts, Costs(), {k: None for k in range(6)}),
                         {(1,): None, (2,): None})

    def test_against_a_plain_walk_over_all_ways(self):
        rows = 0
        for seed in range(800):
            chance = random.Random(seed)
            facts = some_facts(chance, chance.randrange(12), TABLES, [0, "a"])
            one = some_rule(chance, chance.choice([2, 3, 5]), None, "xyzuv",
                            ("edge", "edge", "node", "trio"))
            own = {k: variable(k) for k in range(facts.count())}
            rings = [(Polynomials(), own), (Whys(), {k: ((k,),) for k in own}),
                     (Numbers(), {k: chance.randrange(4) for k in own}),
                     (Costs(), {k: chance.choice([None, 0, 1, 5]) for k in own}),
                     (Events(5), {k: chance.randrange(32) for k in own}),
                     (capped(3), {k: chance.randrange(4) for k in own}),
                     (field(5), {k: chance.randrange(5) for k in own})]
            for semiring, worths in rings:
                told = dict(worths)
                found = rule_meaning(one, facts, semiring, worths)
                self.assertEqual(found, plain_meaning_of(one, facts, semiring, worths), (seed, one))
                self.assertEqual(worths, told)
            rows += len(found)
        self.assertGreater(rows, 300)

    def test_many_facts(self):
        facts = Facts([("edge", 2)])
        for k in range(200):
            facts.add("edge", (k // 10, k % 10))
        ones = {k: 1 for k in range(200)}
        # All ways in which five atoms without a common variable become facts: 200 ** 5.
        apart = rule("", *[["edge", 2 * k * "x" + "x", 2 * k * "x" + "xx"] for k in range(5)])
        self.assertEqual(rule_meaning(apart, facts, Numbers(), ones), {(): 200 ** 5})
        chain = rule("af", *[["edge", one, two] for one, two in zip("abcde", "bcdef")])
        found = rule_meaning(chain, facts, Numbers(), ones)
        self.assertEqual((len(found), sum(found.values())), (200, 20 * 10 ** 5))
        ring = rule("", ["edge", "a", "b"], ["edge", "c", "d"], ["edge", "b", "c"],
                    ["edge", "d", "e"], ["edge", "e", "a"])
        self.assertEqual(rule_meaning(ring, facts, Numbers(), ones), {(): 10 ** 5})

    def test_too_large(self):
        facts = Facts([("node", 1), ("edge", 2)])
        for k in range(401):
            facts.add("node", (k,))
        own = {k: variable(k) for k in range(402)}
        for head, atoms in (("", [["node", "x"]]), ("", [["node", "x"], ["node", 0]])):
            with self.assertRaises(TooLarge):
                rule_meaning(rule(head, *atoms), facts, Polynomials(), own)
            with self.assertRaises(TooLarge):
                rule_meaning(rule("", ["node", "x"]), facts, Whys(), {k: ((k,),) for k in own})
        self.assertEqual(len(rule_meaning(rule("x", ["node", "x"]), facts, Polynomials(), own)), 401)
        facts.give_up(7)
        self.assertEqual(len(self.only(rule_meaning(rule("", ["node", "x"]), facts, Polynomials(), own))), 400)
        # Ways that come to nothing in the end are no reason to raise it.
        facts.bring_back(7)
        self.assertEqual(rule_meaning(rule("", ["node", "x"], ["edge", "y", "y"]), facts,
                                      Polynomials(), own), {})
        facts.add("edge", (3, 4))
        self.assertEqual(rule_meaning(rule("", ["edge", "y", "z"], ["node", "x"], ["edge", "z", "z"]),
                                      facts, Polynomials(), own), {})

    def only(self, found):
        self.assertEqual(list(found), [()])
        return found[()]


class MapsTest(unittest.TestCase):
    def test_small_ones(self):
        two = rule("x", ["edge", "x", "y"], ["edge", "y", "z"])
        loop = rule("x", ["edge", "x", "x"])
        self.assertEqual(maps_to(two, loop),
                         {"x": ("var", "x"), "y": ("var", "x"), "z": ("var", "x")})
        self.assertIsNone(maps_to(loop, two))
        value = rule("x", ["edge", "x", 5], ["edge", 5, "|a|"])
        self.assertEqual(maps_to(two, value),
                         {"x": ("var", "x"), "y": ("value", 5), "z": ("value", "a")})
        self.assertIsNone(maps_to(value, two))
        self.assertEqual(maps_to(rule("", ["node", 5]), rule("", ["node", 5])), {})
        self.assertIsNone(maps_to(rule("", ["node", 5]), rule("", ["node", 6])))
        self.assertIsNone(maps_to(rule("", ["node", 5]), rule("", ["node", "|5|"])))
        self.assertIsNone(maps_to(rule("x", ["node", "x"]), rule("", ["node", "x"])))
        self.assertIsNone(maps_to(rule("xx", ["node", "x"]), rule("x", ["node", "x"])))
        self.assertIsNone(maps_to(rule("xx", ["edge", "x", "y"]), rule("xy", ["edge", "x", "y"])))
        self.assertEqual(maps_to(rule("xy", ["edge", "x", "y"]), rule("xx", ["edge", "x", "x"])),
                         {"x": ("var", "x"), "y": ("var", "x")})

    def test_against_plain_tries_of_all_maps(self):
        found = 0
        for first, second in some_pairs(500):
            plain = plain_maps(first, second)
            one = maps_to(first, second)
            if plain:
                self.assertIn(one, plain)
                found += 1
            else:
                self.assertIsNone(one)
        self.assertGreater(found, 150)

    def test_heads_of_different_lengths(self):
        chance = random.Random(1)
        for _ in range(100):
            first = some_rule(chance, 3, 1)
            second = (first[0] * chance.choice([0, 2, 3]), first[1])
            if first[0]:
                own = {name: ("var", name) for name in variables(first)}
                self.assertIs(is_map(first, first, own), True)
                self.assertIs(is_map(first, second, own), False)
                self.assertIsNone(maps_to(first, second))
                self.assertIsNone(maps_to(second, first))

    def test_is_map(self):
        two = rule("x", ["edge", "x", "y"], ["edge", "y", "z"])
        three = rule("a", ["edge", "a", "b"], ["edge", "b", 7], ["edge", "b", "a"])
        fine = {"x": ("var", "a"), "y": ("var", "b"), "z": ("value", 7)}
        self.assertIs(is_map(two, three, fine), True)
        self.assertIs(is_map(two, three, {**fine, "z": ("var", "a")}), True)
        for wrong in (
            {}, {"x": ("var", "a"), "y": ("var", "b")}, {**fine, "w": ("var", "a")},
            {**fine, "z": ("var", "b")}, {**fine, "z": ("var", "x")}, {**fine, "x": ("var", "b")},
            {**fine, "z": ("value", 8)}, {**fine, "z": ("value", "7")}, {**fine, "z": ("var", "7")},
            {**fine, "y": ("value", "b")}, {**fine, "x": ("value", "a")}, {**fine, "": ("var", "a")},
            {"x": ("var", "a"), "y": ("var", "b"), "Z": ("value", 7)}, {**fine, "z": (7, "value")},
            {**fine, "z": (0, 0)}, {**fine, "z": ("val", 7)}, {**fine, "a": ("var", "a")},
        ):
            self.assertIs(is_map(two, three, wrong), False)
        self.assertIs(is_map(rule("", ["node", 5]), rule("", ["node", 5]), {}), True)
        self.assertIs(is_map(rule("", ["node", 5]), rule("", ["node", 6]), {}), False)
        self.assertIs(is_map(rule("", ["node", 5]), rule("", ["node", 5]), {"x": ("value", 5)}), False)

    def test_changed_maps(self):
        chance, right, wrong = random.Random(2), 0, 0
        for first, second in some_pairs(300):
            table = maps_to(first, second)
            if table is None:
                names = variables(first)
                table = {name: chance.choice(terms_of(second)) for name in names}
            else:
                self.assertIs(is_map(first, second, table), True)
            for name in list(table):
                for other in terms_of(second) + [("var", "zz"), ("value", 9), ("value", "a")]:
                    changed = {**table, name: other}
                    plain = plain_is_map(first, second, changed)
                    self.assertIs(is_map(first, second, changed), plain)
                    right, wrong = right + plain, wrong + (not plain)
                few = {one: table[one] for one in table if one != name}
                self.assertIs(is_map(first, second, few), False)
            self.assertIs(is_map(first, second, {**table, "more": ("var", "x")}), False)
        self.assertGreater(right, 200)
        self.assertGreater(wrong, 1000)


class FactsToldCase(unittest.TestCase):
    def own(self, facts):
        self.assertEqual(facts.tables(), TABLES)
        self.assertTrue(all(facts.is_there(k) for k in range(facts.count())))
        return {k: variable(k) for k in range(facts.count())}


class ContainedTest(FactsToldCase):
    def check_contained(self, first, second):
        told = contained(first, second, TABLES)
        self.assertIs(type(told), tuple)
        if plain_maps(second, first):
            self.assertEqual((told[0], len(told)), ("yes", 2))
            self.assertIn(told[1], plain_maps(second, first))
            return True
        word, facts, row = told
        self.assertEqual(word, "no")
        own = self.own(facts)
        self.assertIn(row, rule_meaning(first, facts, Polynomials(), own))
        self.assertNotIn(row, rule_meaning(second, facts, Polynomials(), own))
        self.assertIn(row, plain_meaning_of(first, facts, Numbers(), {k: 1 for k in own}))
        self.assertNotIn(row, plain_meaning_of(second, facts, Numbers(), {k: 1 for k in own}))
        return False

    def test_small_ones(self):
        one = rule("x", ["edge", "x", "y"])
        two = rule("x", ["edge", "x", "y"], ["edge", "y", "z"])
        loop = rule("x", ["edge", "x", "x"])
        five = rule("x", ["edge", "x", 5])
        for first, second, word in (
            (one, one, "yes"), (two, one, "yes"), (one, two, "no"), (loop, one, "yes"),
            (loop, two, "yes"), (two, loop, "no"), (five, one, "yes"), (one, five, "no"),
            (five, two, "no"), (two, five, "no"), (five, loop, "no"), (loop, five, "no"),
            (rule("xy", ["edge", "x", "y"]), rule("yx", ["edge", "x", "y"]), "no"),
            (rule("xx", ["edge", "x", "y"]), rule("xy", ["edge", "x", "y"]), "no"),
            (rule("xx", ["edge", "x", "x"]), rule("xy", ["edge", "x", "y"]), "yes"),
            (rule("", ["node", 5]), rule("", ["node", "x"]), "yes"),
            (rule("", ["node", 0], ["node", 1], ["edge", "x", 2]), rule("", ["edge", "x", "x"]), "no"),
            (rule("", ["node", "x"]), rule("", ["node", 0]), "no"),
            (rule("", ["edge", "x", "y"]), rule("", ["edge", 0, 1]), "no"),
            (rule("", ["edge", "x", "y"]), rule("", ["edge", "z", 1]), "no"),
        ):
            self.assertEqual(self.check_contained(first, second), word == "yes")
        self.assertEqual(contained(loop, two, TABLES)[1],
                         {"x": ("var", "x"), "y": ("var", "x"), "z": ("var", "x")})

    def test_rules_made_at_random(self):
        yes = no = 0
        for first, second in some_pairs(500):
            told = self.check_contained(first, second)
            yes, no = yes + told, no + (not told)
        self.assertGreater(yes, 150)
        self.assertGreater(no, 150)

    def test_contained_rows_are_rows_of_the_other(self):
        chance = random.Random(3)
        for first, second in some_pairs(150):
            if contained(first, second, TABLES)[0] == "yes":
                facts = some_facts(chance, 7)
                ones = {k: 1 for k in range(facts.count())}
                rows = set(rule_meaning(first, facts, Numbers(), ones))
                self.assertLessEqual(rows, set(rule_meaning(second, facts, Numbers(), ones)))

    def test_values_do_not_meet_those_that_stand_for_variables(self):
        atoms = [["edge", k, k + 1] for k in range(0, 8, 2)] + [["edge", "x", "y"]]
        first = rule("xy", *atoms)
        for second in (rule("xy", *atoms[:4], ["edge", "x", 0], ["edge", "y", "x"]),
                       rule("xy", ["edge", "x", "y"], ["edge", "z", 8]),
                       rule("xy", ["edge", "x", "y"], ["node", "x"])):
            self.check_contained(first, second)
            self.check_contained(second, first)

    def test_five_atoms_each(self):
        def chain(names):
            return rule(names[0], *[["edge", a, b] for a, b in zip(names, names[1:])])

        self.assertTrue(self.check_contained(chain("abcdef"), chain("abc")))
        self.assertEqual(contained(chain("abc"), chain("abcdef"), TABLES)[0], "no")
        grid = rule("", *[["edge", a, b] for a in "ab" for b in "cd"], ["edge", "a", "b"])
        self.assertEqual(contained(grid, rule("", *[["edge", "x", "y"]] * 5), TABLES)[0], "yes")

    def test_heads_of_different_lengths(self):
        for first, second in (
            (rule("x", ["node", "x"]), rule("", ["node", "x"])),
            (rule("", ["node", "x"]), rule("x", ["node", "x"])),
            (rule("xx", ["node", "x"]), rule("x", ["node", "x"])),
        ):
            for ask in (contained, alike):
                with self.assertRaises(InvalidArgument):
                    ask(first, second, TABLES)


class AlikeTest(FactsToldCase):
    def check_alike(self, first, second):
        told = alike(first, second, TABLES)
        self.assertIs(type(told), tuple)
        if plain_renamings(first, second):
            self.assertEqual((told[0], len(told)), ("yes", 2))
            self.assertIn(told[1], plain_renamings(first, second))
            return True
        word, facts, row = told
        self.assertEqual(word, "no")
        own = self.own(facts)
        for mean in (rule_meaning, plain_meaning_of):
            one = mean(first, facts, Polynomials(), own).get(row, ())
            other = mean(second, facts, Polynomials(), own).get(row, ())
            self.assertNotEqual(one, other)
        return False

    def test_small_ones(self):
        one = rule("x", ["edge", "x", "y"])
        twice = rule("x", ["edge", "x", "y"], ["edge", "x", "y"])
        apart = rule("x", ["edge", "x", "y"], ["edge", "x", "z"])
        loop = rule("x", ["edge", "x", "x"])
        for first, second, told in (
            (one, one, True), (one, rule("b", ["edge", "b", "a"]), True), (one, twice, False),
            (one, apart, False), (twice, apart, False), (one, loop, False), (twice, twice, True),
            (apart, rule("x", ["edge", "x", "z"], ["edge", "x", "y"]), True),
            (one, rule("y", ["edge", "x", "y"]), False),
            (rule("xy", ["edge", "x", "y"]), rule("yx", ["edge", "x", "y"]), False),
            (rule("xy", ["edge", "x", "y"]), rule("yx", ["edge", "y", "x"]), True),
            (rule("xx", ["edge", "x", "y"]), rule("xy", ["edge", "x", "y"]), False),
            (rule("", ["node", 5]), rule("", ["node", 5]), True),
            (rule("", ["node", 5]), rule("", ["node", "x"]), False),
            (rule("", ["node", 5]), rule("", ["node", "|5|"]), False),
            (rule("", ["node", 5]), rule("", ["node", 6]), False),
            (rule("", ["node", "x"], ["node", "y"]), rule("", ["node", "x"], ["node", "x"]), False),
            (rule("", ["node", "x"], ["node", 1]), rule("", ["node", "x"], ["node", "x"]), False),
            (rule("", ["edge", "x", "y"], ["edge", "y", "x"]),
             rule("", ["edge", "y", "x"], ["edge", "x", "y"]), True),
            (rule("", ["node", "x"], ["node", "x"], ["node", "y"]),
             rule("", ["node", "a"], ["node", "b"], ["node", "b"]), True),
            (rule("", ["node", "x"], ["node", "x"], ["node", "y"]),
             rule("", ["node", "a"], ["node", "b"], ["node", "c"]), False),
        ):
            self.assertEqual(self.check_alike(first, second), told)
            self.assertEqual(self.check_alike(second, first), told)
        self.assertEqual(alike(one, rule("b", ["edge", "b", "a"]), TABLES), ("yes", {"x": "b", "y": "a"}))
        self.assertEqual(alike(rule("", ["node", 5]), rule("", ["node", 5]), TABLES), ("yes", {}))

    def test_rules_made_at_random(self):
        yes = no = 0
        for first, second in some_pairs(600):
            told = self.check_alike(first, second)
            self.assertEqual(self.check_alike(second, first), told)
            yes, no = yes + told, no + (not told)
        self.assertGreater(yes, 150)
        self.assertGreater(no, 150)

    def test_alike_rules_mean_the_same(self):
        chance = random.Random(4)
        for first, second in some_pairs(150):
            if alike(first, second, TABLES)[0] == "yes":
                facts = some_facts(chance, 6)
                own = {k: variable(k) for k in range(facts.count())}
                self.assertEqual(rule_meaning(first, facts, Polynomials(), own),
                                 rule_meaning(second, facts, Polynomials(), own))

    def test_rules_that_contain_each_other_but_are_not_alike(self):
        one = rule("x", ["edge", "x", "y"])
        apart = rule("x", ["edge", "x", "y"], ["edge", "x", "z"])
        self.assertEqual(contained(one, apart, TABLES)[0], "yes")
        self.assertEqual(contained(apart, one, TABLES)[0], "yes")
        self.assertEqual(alike(one, apart, TABLES)[0], "no")

    def test_what_is_passed_is_not_changed(self):
        tables = list(TABLES)
        one = rule("x", ["edge", "x", "y"])
        _, facts, row = alike(one, rule("x", ["edge", "x", "x"]), tables)
        self.assertEqual(tables, TABLES)
        facts.add("node", (1,))
        self.assertEqual(alike(one, rule("x", ["edge", "x", "x"]), tables)[1].find("node", (1,)), None)
        table = maps_to(one, one)
        self.assertTrue(is_map(one, one, table))
        self.assertEqual(table, maps_to(one, one))


if __name__ == "__main__":
    unittest.main()
