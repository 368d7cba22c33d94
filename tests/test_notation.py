import random
import unittest

from everyworth.errors import BadText
from everyworth.facts import Facts
from everyworth.notation import read, read_store, store_text, write
from everyworth.trees import tree_of

from tests.plain import some_facts, some_query

LETTERS = "".join(chr(k) for k in range(32, 127) if k != 37)


def plain_write(thing):
    if isinstance(thing, int):
        return str(thing)
    if isinstance(thing, str):
        return str(len(thing)) + ":" + thing
    return "(" + ",".join(plain_write(part) for part in thing) + ")"


def some_thing(chance, depth):
    kind = chance.randrange(4 if depth else 2)
    if kind == 0:
        return chance.choice([0, 1, -1, 9, 10, -10, chance.randrange(-10 ** 60 + 1, 10 ** 60)])
    if kind == 1:
        length = chance.choice([0, 1, 2, 5, 9, 10, 11, 99])
        return "".join(chance.choice(LETTERS) for _ in range(length))
    return tuple(some_thing(chance, depth - 1) for _ in range(chance.randrange(4)))


def nested(deep):
    """So many tuples within one another."""
    thing = ()
    for _ in range(deep - 1):
        thing = (thing,)
    return thing


def is_same(one, other):
    """Whether two things are equal and of the same kinds throughout."""
    if type(one) is not type(other) or one != other:
        return False
    return not isinstance(one, tuple) or all(is_same(a, b) for a, b in zip(one, other))


def changed_texts(text, letters):
    """The text with one character removed, doubled, exchanged, changed or put in."""
    for k in range(len(text)):
        yield text[:k] + text[k + 1:]
        yield text[:k + 1] + text[k:]
        yield text[:k] + text[k + 1:k + 2] + text[k] + text[k + 2:]
        yield text[:k]
        for letter in letters:
            yield text[:k] + letter + text[k + 1:]
            yield text[:k] + letter + text[k:]
    for letter in letters:
        yield text + letter


class WriteTest(unittest.TestCase):
    def test_each_kind(self):
        for thing, text in (
            (0, "0"), (7, "7"), (-7, "-7"), (1200, "1200"), ("", "0:"), ("a", "1:a"),
            ("5", "1:5"), ("(,)", "3:(,)"), (" ", "1: "), ("1:a", "3:1:a"), ("x" * 10, "10:" + "x" * 10),
            ((), "()"), ((5,), "(5)"), ((5, -6), "(5,-6)"), (((),), "(())"),
            ((("a", 1), (), "b"), "((1:a,1),(),1:b)"), ("x" * 99, "99:" + "x" * 99),
            (("table", "edge"), "(5:table,4:edge)"), (10 ** 59, "1" + "0" * 59),
            (-(10 ** 60 - 1), "-" + "9" * 60),
        ):
            self.assertEqual(write(thing), text)

    def test_against_a_plain_writer(self):
        chance = random.Random(1)
        for _ in range(300):
            thing = some_thing(chance, 4)
            self.assertEqual(write(thing), plain_write(thing))

    def test_what_goes_beyond_what_is_read(self):
        self.assertEqual(write(nested(41)), "(" * 41 + ")" * 41)
        self.assertEqual(write(nested(5000)), "(" * 5000 + ")" * 5000)
        self.assertEqual(write(10 ** 60), "1" + "0" * 60)
        self.assertEqual(write(-(10 ** 120) - 5), "-1" + "0" * 119 + "5")
        self.assertEqual(write(10 ** 9000 + 34), "1" + "0" * 8998 + "34")

    def test_trees_as_deep_as_paths_are_long(self):
        facts = Facts([("edge", 2)])
        for k in range(150):
            facts.add("edge", (k, k + 1))
        tree = tree_of(facts, {}, ("paths", ("table", "edge")), (0, 150), range(150))
        self.assertEqual(write(tree), plain_write(tree))


class ReadTest(unittest.TestCase):
    def refused(self, text):
        with self.assertRaises(BadText) as caught:
            read(text)
        self.assertIs(type(caught.exception), BadText)

    def test_what_is_written_is_read(self):
        chance = random.Random(2)
        for _ in range(500):
            thing = some_thing(chance, 5)
            self.assertTrue(is_same(read(write(thing)), thing), thing)

    def test_queries_and_facts_and_trees(self):
        chance = random.Random(3)
        for _ in range(100):
            query = some_query(chance, chance.randrange(4), 5, {})
            self.assertEqual(read(write(query)), query)
            facts = some_facts(chance, 9)
            rows = [row for _, row in facts.rows("edge")]
            for row in rows:
                tree = tree_of(facts, {}, ("paths", ("table", "edge")), row, range(facts.count()))
                self.assertEqual(read(write(tree)), tree)

    def test_refused_ones(self):
        for text in (
            "", " ", "-", "+", "-0", "+1", "00", "01", "-01", "007", "--1", "1-", "1 ", " 1", "1.0",
            "1e3", "1_0", "0x1", "a", "()()", "(", ")", "(1", "1)", "(1,", "(1,)", "(,1)", "(,)",
            "(1,,2)", "(1 ,2)", "(1, 2)", "( )", "[]", "(1;2)", "((1)", "(1))", "5,6", "(1)(2)",
            "1()", "()1", ":", "1:", "2:a", "1:ab", "0:a", ":a", "-1:a", "-0:", "00:", "01:a",
            "005:hello", "a:a", "1a", "1:a1:b", "(1:a1:b)", "10:123456789", "100:" + "x" * 100,
            "999:" + "x" * 999, "1:%", "1:\n", "1:\t", "1:\x7f", "1:\x00", "1:\x1f", "1:\xe4",
            "2:\xe4b", "1:\u0661", "\u0661", "\u00b2", "1\u0661", "\uff11", "\u00b2:ab", "1:\U0001f600",
            "None", "True", "'a'", '"a"', "1\n", "\n1", "(1)\n", "()\r", "1:a\n", "\ufeff1",
        ):
            self.refused(text)

    def test_60_and_61_digits(self):
        for sign, many in (("", 1), ("-", -1)):
            self.assertEqual(read(sign + "9" * 60), many * (10 ** 60 - 1))
            self.assertEqual(read(sign + "1" + "0" * 59), many * 10 ** 59)
            self.refused(sign + "1" + "0" * 60)
            self.refused(sign + "9" * 61)
            self.refused(f"({sign}{'9' * 61})")
            self.assertEqual(read(f"({sign}{'9' * 60})"), (many * (10 ** 60 - 1),))
        self.refused("0" * 60)
        self.refused("9" * 61 + ":a")

    def test_tuples_40_and_41_deep(self):
        self.assertEqual(read("(" * 40 + ")" * 40), nested(40))
        self.refused("(" * 41 + ")" * 41)
        self.refused("(" * 42 + ")" * 42)
        self.assertEqual(read("(" * 40 + "1:a" + ")" * 40), read("(" * 40 + "1:a" + ")" * 40))
        wide = "(" + ",".join(["(" * 39 + ")" * 39] * 3) + ")"
        self.assertEqual(read(wide), (nested(39),) * 3)
        self.refused("(" + ",".join(["(" * 39 + ")" * 39, "(" * 40 + ")" * 40]) + ")")

    def test_lengths_of_two_digits_and_of_three(self):
        for many in (9, 10, 98, 99):
            self.assertEqual(read(f"{many}:" + "x" * many), "x" * many)
            self.refused(f"{many}:" + "x" * (many - 1))
            self.refused(f"{many}:" + "x" * (many + 1))
            self.refused(f"0{many}:" + "x" * many)
        for many in (100, 101, 250):
            self.refused(f"{many}:" + "x" * many)

    def test_every_character_of_texts(self):
        for k in range(0x180):
            if 32 <= k < 127 and k != 37:
                self.assertEqual(read("1:" + chr(k)), chr(k))
                self.assertEqual(read("(3:a" + chr(k) + "b,5)"), ("a" + chr(k) + "b", 5))
            else:
                self.refused("1:" + chr(k))
                self.refused("(3:a" + chr(k) + "b,5)")

    def test_texts_in_which_one_character_is_changed(self):
        chance, refused, taken = random.Random(4), 0, 0
        for _ in range(60):
            text = write(some_thing(chance, 3))[:60]
            for other in changed_texts(text, "01:(),- a%\n"):
                try:
                    thing = read(other)
                except BadText:
                    refused += 1
                else:
                    # What is taken is the written form of what comes out, and nothing else.
                    self.assertEqual(plain_write(thing), other)
                    taken += 1
        self.assertGreater(refused, 10000)
        self.assertGreater(taken, 1000)

    def test_texts_that_are_cut_off_or_have_something_behind_them(self):
        chance = random.Random(5)
        for _ in range(100):
            text = write((some_thing(chance, 3), "end"))
            for k in range(len(text)):
                self.refused(text[:k])
            for more in ("0", ",", ")", "(", "()", " ", "\n", "1:a", "-"):
                self.refused(text + more)

    def test_very_long_and_very_deep_texts(self):
        many = 200000
        self.refused("(" * many)
        self.refused("(" * many + ")" * many)
        self.refused(")" * many)
        self.refused("1" * many)
        self.refused("-" * many)
        self.refused("-" + "9" * many)
        self.refused("0" * many + ":")
        self.refused("(1," * many)
        self.refused("1:a" * many)
        self.refused("(" + "7," * many)
        self.refused("x" * many)
        self.assertEqual(read("(" + "7," * many + "7)"), (7,) * (many + 1))
        self.assertEqual(read("(" + "1:a," * many + "())"), ("a",) * many + ((),))


def state(facts):
    pairs = [(facts.fact(k), facts.is_there(k)) for k in range(facts.count())]
    return facts.tables(), pairs, [facts.rows(name) for name, _ in facts.tables()]


def stores():
    """Stores of no table and of one to three tables, with facts there and given up."""
    found = [Facts([]), Facts([("a", 1)]), Facts([("edge", 2), ("x", 4), ("abcdefghijkl", 1)])]
    one = Facts([("edge", 2)])
    one.add("edge", ("a", -5))
    two = Facts([("edge", 2), ("node", 1)])
    for row in ((1, 2), ("gone 1", "fact 2"), ("table a 1", ""), (10 ** 60 - 1, "(1:a,(1))")):
        two.add("edge", row)
    two.add("node", ("~ !\"#$&'()*+,-./:;<",))
    two.give_up(0)
    two.give_up(3)
    found += [one, two]
    chance = random.Random(6)
    tables = [("zz", 3), ("edge", 2), ("node", 1)]
    for many in (3, 5, 8):
        found.append(some_facts(chance, many, tables))
    return found


class StoreTest(unittest.TestCase):
    def refused(self, text):
        with self.assertRaises(BadText) as caught:
            read_store(text)
        self.assertIs(type(caught.exception), BadText)

    def test_the_text(self):
        facts = Facts([("edge", 2), ("node", 1)])
        self.assertEqual(store_text(facts), "table edge 2\ntable node 1\n")
        facts.add("node", ("a b",))
        facts.add("edge", (-3, ""))
        facts.add("edge", (0, 0))
        facts.give_up(1)
        self.assertEqual(
            store_text(facts),
            "table edge 2\ntable node 1\n"
            "fact (4:node,(3:a b))\ngone (4:edge,(-3,0:))\nfact (4:edge,(0,0))\n",
        )
        self.assertEqual(store_text(Facts([])), "")

    def test_reading_gives_an_equal_store(self):
        for facts in stores():
            before = state(facts)
            text = store_text(facts)
            again = read_store(text)
            self.assertEqual(state(again), before)
            self.assertEqual(store_text(again), text)
            self.assertIsInstance(again, Facts)
            self.assertEqual(state(facts), before)
        self.assertEqual(read_store("").tables(), [])

    def test_a_store_that_was_read_goes_on(self):
        again = read_store("table edge 2\ngone (4:edge,(1,2))\nfact (4:edge,(2,1))\n")
        self.assertEqual(again.add("edge", (3, 3)), 2)
        again.bring_back(0)
        self.assertEqual(again.rows("edge"), [(0, (1, 2)), (1, (2, 1)), (2, (3, 3))])
        self.assertEqual(again.find("edge", (2, 1)), 1)

    def test_refused_ones(self):
        tables = "table edge 2\ntable node 1\n"
        for text in (
            "\n", " ", "table", "table\n", "table edge 2", "table edge 2\n\n", "\ntable edge 2\n",
            "table edge  2\n", "table edge 2 \n", " table edge 2\n", "table  edge 2\n",
            "table edge 02\n", "table edge +2\n", "table edge 0\n", "table edge 5\n",
            "table edge -1\n", "table edge 22\n", "table edge two\n", "table edge\n",
            "table edge \n", "table edge \u0662\n", "table edge \u00b2\n", "table Edge 2\n",
            "table e1 2\n", "table  2\n", "table abcdefghijklm 2\n", "table edge 2 2\n",
            "table \xe4 2\n", "Table edge 2\n", "table edge 2\r\n", "table edge 2\ntable edge 2\n",
            "table edge 2\ntable edge 1\n", "table edge 2\x0btable node 1\n", "table edge 2\f",
            tables + "fact (4:edge,(1,2))", tables + "fact (4:edge,(1,2))\n\n",
            tables + "\nfact (4:edge,(1,2))\n", tables + "fact  (4:edge,(1,2))\n",
            tables + "fact (4:edge,(1,2)) \n", tables + " fact (4:edge,(1,2))\n",
            tables + "Fact (4:edge,(1,2))\n", tables + "back (4:edge,(1,2))\n",
            tables + "fact(4:edge,(1,2))\n", tables + "fact\n", tables + "fact \n",
            tables + "(4:edge,(1,2))\n", tables + "fact (4:edge,(1,2))\r\n",
            tables + "fact (4:edge,(1,2,3))\n", tables + "fact (4:edge,(1))\n",
            tables + "fact (4:edge,())\n", tables + "fact (4:edge,1)\n",
            tables + "fact (4:edge,1:a)\n", tables + "fact (4:edge,(1,()))\n",
            tables + "fact (4:edge,((1),2))\n", tables + "fact (4:edge)\n", tables + "fact ()\n",
            tables + "fact (4:edge,(1,2),1)\n", tables + "fact 4:edge\n", tables + "fact 5\n",
            tables + "fact (5,(1,2))\n", tables + "fact ((),(1,2))\n", tables + "fact (0:,(1,2))\n",
            tables + "fact (((4:edge)),(1,2))\n", tables + "fact (4:edgy,(1,2))\n",
            tables + "fact (4:Edge,(1,2))\n", tables + "fact (4:edge,(01,2))\n",
            tables + "fact (4:edge,(1,2)\n", tables + "fact (4:edge,(1, 2))\n",
            tables + "fact (4:edge,(1,21:" + "x" * 21 + "))\n", tables + "fact (4:edge,(1,1:%))\n",
            tables + "fact (4:edge,(1,1:\xe4))\n", tables + "fact (4:edge,(1,1:\n))\n",
            tables + "fact (4:edge,(1,2))\nfact (4:edge,(1,2))\n",
            tables + "gone (4:edge,(1,2))\nfact (4:edge,(1,2))\n",
            tables + "fact (4:edge,(1,2))\ngone (4:edge,(1,2))\n",
            tables + "fact (4:edge,(1,1" + "0" * 60 + "))\n",
            "fact (4:edge,(1,2))\n" + tables, "table edge 2\nfact (4:edge,(1,2))\ntable node 1\n",
            "fact (4:edge,(1,2))\n", "gone ()\n", "store\n", "table node " + "1" * 5000 + "\n",
        ):
            self.refused(text)
        twenty = tables + "fact (4:edge,(1,20:" + "x" * 20 + "))\n"
        self.assertEqual(store_text(read_store(twenty)), twenty)

    def check_text(self, text):
        """A text is refused, or it is the text of exactly the store that is read."""
        try:
            facts = read_store(text)
        except BadText:
            return False
        self.assertEqual(store_text(facts), text)
        return True

    def test_each_line_dropped_doubled_moved_or_changed(self):
        taken = refused = 0
        for facts in stores():
            lines = store_text(facts).split("\n")[:-1]
            others = []
            for k, line in enumerate(lines):
                rest = lines[:k] + lines[k + 1:]
                others += [rest, lines[:k] + [line, line] + lines[k + 1:]]
                others += [rest[:j] + [line] + rest[j:] for j in range(len(lines))]
                others += [lines[:k] + [""] + lines[k:]]
                others += [lines[:k] + [other] + lines[k + 1:]
                           for other in changed_texts(line, "12a(),: \n")]
            for other in others:
                fine = self.check_text("".join(line + "\n" for line in other))
                taken, refused = taken + fine, refused + (not fine)
        self.assertGreater(taken, 500)
        self.assertGreater(refused, 5000)

    def test_lines_that_only_a_store_can_refuse(self):
        lines = store_text(stores()[4]).split("\n")[:-1]
        for k in range(len(lines)):
            self.refused("".join(line + "\n" for line in lines[:k] + [lines[k]] + lines[k:]))

    def test_texts_without_their_last_line_feed(self):
        for facts in stores():
            text = store_text(facts)
            if text:
                self.refused(text[:-1])
            self.refused(text + "\n")
            self.refused("\n" + text)
            self.refused(text + " ")

    def test_large_stores(self):
        facts = Facts([("node", 1)])
        for k in range(5000):
            facts.add("node", (k,))
        text = store_text(facts)
        self.assertEqual(state(read_store(text)), state(facts))
        self.refused("table node 1\nfact " + "(" * 100000 + "\n")


if __name__ == "__main__":
    unittest.main()
