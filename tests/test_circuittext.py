import random
import unittest

from everyworth.circuits import Circuits, nodes_within, worth
from everyworth.circuittext import circuit_text, read_circuit
from everyworth.errors import BadText, TooLarge

from tests.plain import capped
from tests.test_circuits import shown, some_store, tower
from tests.test_notation import changed_texts


def plain_text(circuits, node):
    nodes = nodes_within(circuits, [node])
    lines = []
    for one in nodes:
        word, *rest = circuits.shown(one)
        parts = [rest[0]] if word == "fact" else []
        if word in ("plus", "times"):
            parts = [nodes.index(part) for part in rest[0]]
        if word == "star":
            parts = [nodes.index(rest[0])]
        lines.append(" ".join([word] + [str(part) for part in parts]) + "\n")
    return "".join(lines)


def written(circuits, node):
    """The node written out, the parts of each node in an order of their own."""
    word, *rest = circuits.shown(node)
    if word in ("plus", "times"):
        return word, tuple(sorted((written(circuits, part) for part in rest[0]), key=repr))
    if word == "star":
        return word, written(circuits, rest[0])
    return word, *rest


def some_node(seed):
    """A store, and a node of it that is not too large to be written out."""
    chance = random.Random(seed)
    circuits = some_store(chance, 14, 3)
    node = chance.randrange(circuits.count())
    return circuits, node


class TextTest(unittest.TestCase):
    def test_each_kind_of_node(self):
        store = Circuits()
        a, b = store.fact(12), store.fact(0)
        star = store.star(store.plus([b, 1]))
        product = store.times([star, b, a, b])
        for node, text in (
            (0, "zero\n"), (1, "one\n"), (a, "fact 12\n"), (b, "fact 0\n"),
            (store.plus([a, b]), "fact 12\nfact 0\nplus 0 1\n"),
            (store.plus([b, b, b]), "fact 0\nplus 0 0 0\n"),
            (store.plus([1, 1]), "one\nplus 0 0\n"),
            (store.star(1), "one\nstar 0\n"),
            (store.star(store.star(a)), "fact 12\nstar 0\nstar 1\n"),
            (store.times([b, a]), "fact 12\nfact 0\ntimes 0 1\n"),
            (star, "one\nfact 0\nplus 0 1\nstar 2\n"),
            (product, "one\nfact 12\nfact 0\nplus 0 2\nstar 3\ntimes 1 2 2 4\n"),
            (store.fact(999999999), "fact 999999999\n"),
        ):
            self.assertEqual(circuit_text(store, node), text)
            self.assertEqual(read_circuit(store, text), node)

    def test_shared_nodes_stand_once(self):
        store = Circuits()
        a = store.fact(0)
        top = tower(store, a, 3)
        self.assertEqual(circuit_text(store, top), "fact 0\nplus 0 0\nplus 1 1\nplus 2 2\n")
        high = tower(store, a, 5000, "times")
        text = circuit_text(store, high)
        self.assertEqual(text.count("\n"), 5001)
        self.assertEqual(read_circuit(store, text), high)
        other = Circuits()
        self.assertEqual(circuit_text(other, read_circuit(other, text)), text)

    def test_against_a_plain_writer(self):
        for seed in range(150):
            circuits, node = some_node(seed)
            before = shown(circuits)
            self.assertEqual(circuit_text(circuits, node), plain_text(circuits, node))
            self.assertEqual(shown(circuits), before)

    def test_reading_into_stores(self):
        chance = random.Random(4)
        for seed in range(150):
            circuits, node = some_node(seed)
            text, before = circuit_text(circuits, node), shown(circuits)
            self.assertEqual(read_circuit(circuits, text), node)
            self.assertEqual(shown(circuits), before)
            empty = Circuits()
            again = read_circuit(empty, text)
            self.assertEqual(circuit_text(empty, again), text)
            self.assertEqual(again, empty.count() - 1 if again > 1 else again)
            self.assertEqual(empty.count(), 2 + sum(line not in ("", "zero", "one")
                                                    for line in text.split("\n")))
            other = some_store(random.Random(seed + 1000), 20, 4)
            old = shown(other)
            there = read_circuit(other, text)
            self.assertEqual(shown(other)[:len(old)], old)
            self.assertEqual(written(other, there), written(circuits, node))
            self.assertEqual(read_circuit(other, circuit_text(other, there)), there)
            self.assertEqual(read_circuit(other, text), there)
            worths = {k: chance.randrange(4) for k in range(5)}
            self.assertEqual(worth(other, there, capped(3), worths),
                             worth(circuits, node, capped(3), worths))


class BadTextTest(unittest.TestCase):
    def refused(self, text, store=None):
        store = store or Circuits()
        before = shown(store)
        with self.assertRaises(BadText) as caught:
            read_circuit(store, text)
        self.assertIs(type(caught.exception), BadText)
        self.assertEqual(shown(store), before)

    def test_refused_ones(self):
        two = "fact 0\nfact 1\n"
        for text in (
            "", "\n", " ", "zero", "one", "fact 5", "zero\n\n", "\nzero\n", " zero\n", "zero \n",
            "Zero\n", "zero 0\n", "one 0\n", "one\nzero 0\n", "one\none 0\n", "two\n", "0\n",
            "fact\n", "fact \n", "fact a\n", "fact -1\n", "fact +1\n", "fact 1 2\n", "fact  1\n",
            "fact 1 \n", " fact 1\n", "fact 01\n", "fact 00\n", "fact 1000000000\n",
            "fact 1234567890\n", "fact 0000000001\n", "fact 1.0\n", "fact 1_0\n", "fact \u0661\n",
            "fact \u00b2\n", "fact\t1\n", "fact 1\r\n", "fact 1\n\n", "fact 1\x0bfact 2\n",
            "fact " + "1" * 5000 + "\n", "fact(1)\n", "fact 1,\n", "fact 1\nfact 1\n",
            # Each line is one that a later one uses, and stands once.
            "zero\none\n", "one\nzero\n", "zero\nfact 0\n", "one\nfact 0\n", two, "one\none\n",
            two + "star 0\n", two + "plus 0 0\n", two + "plus 0 1\ntimes 0 1\n",
            "fact 0\nfact 0\nplus 0 1\n", two + "plus 0 1\nplus 0 1\nstar 3\n",
            two + "plus 0 1\nplus 0 1\ntimes 2 3\n", "fact 0\nstar 0\nfact 0\nplus 0 1\n",
            # A one stands ahead of all others.
            "fact 0\none\nplus 0 1\n", "fact 0\nstar 0\none\nplus 1 2\n",
            # Indexes are of lines ahead, and ascend.
            "star 0\n", "plus 0 0\n", "times 0 1\n", "fact 0\nstar 1\n", "fact 0\nstar 2\n",
            "fact 0\nplus 0 1\n", "fact 0\nplus 0 2\n", "fact 0\nplus 0 -1\n", "plus 1 1\nfact 0\n",
            two + "plus 1 0\n", two + "times 1 0\n", two + "plus 0 1 0\n", two + "times 1 0 1\n",
            two + "plus 0 01\n", two + "plus 0 1000000000\n", two + "plus 0  1\n",
            two + "plus 0 1 \n", two + "plus 0 1", two + "plus 0,1\n", two + "plus 0 a\n",
            # What sums, products and stars are not made of.
            "zero\nplus 0 0\n", "zero\nstar 0\n", "zero\ntimes 0 0\n", "zero\nfact 0\nplus 0 1\n",
            "zero\nfact 0\ntimes 0 1\n", "one\nfact 0\ntimes 0 1\n", "one\ntimes 0 0\n",
            "zero\none\nplus 0 1\n", "plus\n", "times\n", "star\n", "fact 0\nplus\n", "fact 0\ntimes\n",
            "fact 0\nplus 0\n", "fact 0\ntimes 0\n", "one\nplus 0\n", "one\ntimes 0\n", "zero\nplus 0\n",
            "fact 0\nstar\n", two + "star 0 1\n", "fact 0\nstar 0 0\n", "fact 0\nsum 0 0\n",
            "fact 0\nplus 0 0\nplus 1\n", "plus \n", "star \n", "fact 0\nPlus 0 0\n",
        ):
            self.refused(text)

    def test_numbers_of_9_and_10_digits(self):
        store = Circuits()
        node = read_circuit(store, "fact 123456789\nstar 0\n")
        self.assertEqual(store.shown(store.shown(node)[1]), ("fact", 123456789))
        self.refused("fact 1234567890\nstar 0\n")
        self.refused("fact 0\nstar 0000000000\n")

    def check_text(self, text):
        """A text is refused, or it is the text of exactly the node that is read."""
        store = Circuits()
        try:
            node = read_circuit(store, text)
        except BadText:
            self.assertEqual(store.count(), 2)
            return False
        self.assertEqual(plain_text(store, node), text)
        return True

    def test_each_line_dropped_doubled_moved_or_changed(self):
        taken = refused = 0
        for seed in range(60):
            circuits, node = some_node(seed)
            lines = circuit_text(circuits, node).split("\n")[:-1]
            others = []
            for k, line in enumerate(lines):
                rest = lines[:k] + lines[k + 1:]
                others += [rest, lines[:k] + [line, line] + lines[k + 1:]]
                others += [rest[:j] + [line] + rest[j:] for j in range(len(lines))]
                others += [lines[:k] + [other] + lines[k + 1:]
                           for other in changed_texts(line, "015 \n")]
                others += [lines[:k] + [other] + lines[k + 1:] for other in set(lines)]
            others += [lines + [more] for more in ("fact 9", "star 0", "plus 0 0", "one", "")]
            for other in others:
                fine = self.check_text("".join(line + "\n" for line in other))
                taken, refused = taken + fine, refused + (not fine)
        self.assertGreater(taken, 300)
        self.assertGreater(refused, 10000)

    def test_lines_dropped_or_doubled(self):
        for seed in range(60):
            circuits, node = some_node(seed)
            lines = [line + "\n" for line in circuit_text(circuits, node).split("\n")[:-1]]
            for k, line in enumerate(lines):
                self.refused("".join(lines[:k] + [line] + lines[k:]))
                if line not in ("one\n", "zero\n"):
                    self.refused("".join(lines + [line]))
            self.refused("".join(lines)[:-1])
            self.refused("".join(lines) + "\n")
            self.refused("\n" + "".join(lines))

    def test_texts_of_nodes_that_no_store_has(self):
        facts = "".join(f"fact {k}\n" for k in range(20000))
        wide = "".join(f"fact {k}\n" for k in range(2001))
        self.refused(wide + "plus " + " ".join(str(k) for k in range(2001)) + "\n")
        self.refused("fact 0\nplus" + " 0" * 2001 + "\n")
        self.refused("fact 0\ntimes" + " 0" * 2001 + "\n")
        self.refused(facts)
        chain = "fact 0\n" + "".join(f"star {k}\n" for k in range(19998))
        self.refused(chain)
        # What is bad is bad even where there would be no room for it.
        full = Circuits()
        tower(full, full.fact(0), 19997)
        self.refused(chain, full)
        self.refused("fact 1\nfact 1\n", full)
        self.refused("fact 1", full)

    def test_very_long_texts(self):
        for text in ("fact 0\n" * 100000, "one\n" * 100000, " " * 500000, "\n" * 100000, "plus" + " 0" * 100000,
                     "fact 0\nplus" + " 0" * 100000 + "\n", "fact " + "1" * 500000 + "\n"):
            self.refused(text)


class TooLargeTest(unittest.TestCase):
    def test_the_largest_texts(self):
        store = Circuits()
        wide = "".join(f"fact {k}\n" for k in range(2000))
        text = wide + "plus " + " ".join(str(k) for k in range(2000)) + "\n"
        self.assertEqual(circuit_text(store, read_circuit(store, text)), text)
        chain = "fact 0\n" + "".join(f"star {k}\n" for k in range(19997))
        store = Circuits()
        self.assertEqual(read_circuit(store, chain), 19999)
        self.assertEqual(read_circuit(store, chain), 19999)
        self.assertEqual(circuit_text(store, 19999), chain)

    def test_a_store_without_room_stays_as_it_was(self):
        text = "one\nfact 0\nfact 1\ntimes 1 2\nplus 0 3\nstar 4\n"
        for room in range(8):
            store = Circuits()
            tower(store, store.fact(0), 19997 - room)
            self.assertEqual(store.count(), 20000 - room)
            before = shown(store)
            if room < 4:
                with self.assertRaises(TooLarge) as caught:
                    read_circuit(store, text)
                self.assertIs(type(caught.exception), TooLarge)
                self.assertEqual(shown(store), before)
                # What was forgotten can be made, as far as there is room.
                self.assertEqual(read_circuit(store, "fact 0\nplus 0 0\n"), 3)
            else:
                node = read_circuit(store, text)
                self.assertEqual(node, store.count() - 1)
                self.assertEqual(store.count(), 20000 - room + 4)
                self.assertEqual(circuit_text(store, node), text)


if __name__ == "__main__":
    unittest.main()
