import random
import unittest

from everyworth.desk import Desk
from everyworth.engine import Engine
from everyworth.errors import InvalidArgument, WorthError
from everyworth.normal import normal
from everyworth.notation import read, write
from everyworth.reasons import least_whys, repairs

from tests.plain import TABLES, VALUES, some_query
from tests.test_notation import changed_texts, nested

EDGE, NODE = ("table", "edge"), ("table", "node")
TWO = ("keep", ("join", EDGE, EDGE, ((1, 0),)), (0, 3))
QUESTIONS = [
    ("facts",), ("rows", "two"), ("rows", "far"), ("rows", "three"), ("whys", "far", (1, 3)),
    ("whys", "two", (1, 3)), ("repairs", "far", (1, 3)), ("repairs", "two", (5, 5)),
    ("normal", "two", (1, 3)), ("normal", "far", (1, 3)), ("normal", "three", ()),
]


def plain_answer(engine, thing):
    """What a desk says of a tuple that it takes, told by an engine."""
    word, *rest = thing
    try:
        if word == "add":
            return write(engine.add(*rest))
        if word in ("give", "back", "define", "undo"):
            method = {"give": engine.give_up, "back": engine.bring_back,
                      "define": engine.define, "undo": engine.undo}[word]
            return write(() if method(*rest) is None else 0)
        if word == "rows":
            return write(tuple(engine.rows(*rest)))
        if word == "whys":
            return write(least_whys(engine, *rest))
        if word == "repairs":
            return write(repairs(engine, *rest))
        if word == "normal":
            return write(normal(engine.circuits(), engine.node(*rest)))
        facts = engine.facts()
        return write(tuple((*facts.fact(k), int(facts.is_there(k))) for k in range(facts.count())))
    except WorthError as error:
        return "!" + type(error).__name__


def some_line(chance, views, many):
    """A tuple that a desk takes; some of them raise an error."""
    def row(width):
        return tuple(chance.choice(VALUES) for _ in range(width))

    word = chance.choice(["add"] * 6 + ["give", "back", "define", "define", "undo", "rows", "whys",
                                        "repairs", "normal", "facts"])
    view = chance.choice(list(views) + ["none"])
    if word == "add":
        table, width = chance.choice(TABLES + [("edge", 3), ("edges", 2)])
        return word, table, row(width)
    if word in ("give", "back"):
        return word, chance.randrange(-1, many + 2)
    if word == "define":
        width = chance.randrange(3)
        if chance.randrange(5) == 0:
            return word, chance.choice(["va", "Va", ""]), ("union", EDGE, NODE)
        return word, chance.choice(["va", "vb", "vc"]), some_query(chance, width, 4, views)
    if word in ("undo", "facts"):
        return (word,)
    if word == "rows":
        return word, view
    return word, view, row(views.get(view, 2))


class DeskCase(unittest.TestCase):
    def setUp(self):
        self.desk = Desk(TABLES)
        for thing in (("add", "edge", (1, 2)), ("add", "edge", (2, 3)), ("add", "edge", (1, 3)),
                      ("add", "node", (3,)), ("define", "two", TWO),
                      ("define", "far", ("paths", EDGE)), ("define", "three", ("keep", EDGE, ()))):
            self.desk.answer(write(thing))

    def ask(self, *thing):
        return self.desk.answer(write(thing))

    def state(self):
        return [self.ask(*question) for question in QUESTIONS]

    def check(self, thing, answer):
        self.assertEqual(self.ask(*thing), answer, thing)

    def unchanged(self, line, answer):
        """Check that a line has this answer, and that nothing is changed or kept."""
        before, lines = self.state(), self.desk.lines()
        self.assertEqual(self.desk.answer(line), answer, line)
        self.assertEqual(self.state(), before)
        self.assertEqual(self.desk.lines(), lines)


class AnswersTest(DeskCase):
    def test_add(self):
        self.check(("add", "edge", (3, 1)), "4")
        self.check(("add", "trio", ("a", "", -5)), "5")
        self.check(("rows", "two"), "((1,1),(1,3),(2,1),(3,2),(3,3))")
        self.unchanged(write(("add", "edges", (3, 1))), "!UnknownTable")
        self.unchanged(write(("add", "", (3, 1))), "!UnknownTable")
        self.unchanged(write(("add", "Edge 7", ())), "!UnknownTable")
        self.unchanged(write(("add", "x" * 99, ())), "!UnknownTable")
        self.unchanged(write(("add", "edge", (3,))), "!InvalidArgument")
        self.unchanged(write(("add", "edge", ())), "!InvalidArgument")
        self.unchanged(write(("add", "node", (1, 2, 3, 4, 5, 6))), "!InvalidArgument")
        self.unchanged(write(("add", "edge", (3, 1))), "!DuplicateFact")
        self.ask("give", 4)
        self.unchanged(write(("add", "edge", (3, 1))), "!DuplicateFact")

    def test_give_and_back(self):
        self.check(("give", 0), "()")
        self.check(("rows", "far"), "((1,3),(2,3))")
        self.unchanged(write(("give", 0)), "!WrongState")
        self.unchanged(write(("back", 1)), "!WrongState")
        self.check(("back", 0), "()")
        self.unchanged(write(("back", 0)), "!WrongState")
        for word in ("give", "back"):
            for number in (4, -1, 10 ** 59, -(10 ** 59)):
                self.unchanged(write((word, number)), "!UnknownFact")
        self.check(("rows", "far"), "((1,2),(1,3),(2,3))")

    def test_define(self):
        self.check(("define", "ends", ("keep", ("view", "far"), (1,))), "()")
        self.check(("rows", "ends"), "((2),(3))")
        for name in ("", "Far", "a b", "abcdefghijklm", "x" * 99):
            self.unchanged(write(("define", name, EDGE)), "!InvalidArgument")
        self.unchanged(write(("define", "far", EDGE)), "!DuplicateView")
        self.unchanged(write(("define", "far", ())), "!DuplicateView")
        self.unchanged(write(("define", "Far", ())), "!InvalidArgument")
        for query in ((), (5,), ("edge",), ("table", "edges"), ("view", "ants"), ("var", "x"),
                      ("paths", NODE), ("union", EDGE, NODE), ("keep", EDGE, (2,)),
                      ("union", EDGE, "edge"), ("paths", 5), nested(39), ("paths", nested(38)),
                      ("row", nested(5)), ("row", ("x" * 21,)), ("none", 7)):
            self.unchanged(write(("define", "more", query)), "!QueryError")
        deep = EDGE
        for _ in range(11):
            deep = ("paths", deep)
        self.check(("define", "deep", deep), "()")
        self.unchanged(write(("define", "deeper", ("paths", deep))), "!QueryError")
        for _ in range(20):
            deep = ("paths", deep)
        self.unchanged(write(("define", "deeper", deep)), "!QueryError")

    def test_undo(self):
        self.check(("give", 0), "()")
        self.check(("undo",), "()")
        self.check(("rows", "three"), "(())")
        self.check(("undo",), "()")
        self.check(("rows", "three"), "!UnknownView")
        for _ in range(6):
            self.check(("undo",), "()")
        self.check(("facts",), "()")
        self.unchanged(write(("undo",)), "!NothingToUndo")
        self.assertEqual(len(self.desk.lines()), 16)

    def test_rows(self):
        self.check(("rows", "two"), "((1,3))")
        self.check(("rows", "far"), "((1,2),(1,3),(2,3))")
        self.check(("rows", "three"), "(())")
        self.ask("define", "nil", ("none", 2))
        self.check(("rows", "nil"), "()")
        for view in ("edge", "", "Far", "fars"):
            self.unchanged(write(("rows", view)), "!UnknownView")

    def test_whys_and_repairs(self):
        self.check(("whys", "far", (1, 3)), "((0,1),(2))")
        self.check(("repairs", "far", (1, 3)), "((0,2),(1,2))")
        self.check(("whys", "far", (3, 1)), "()")
        self.check(("repairs", "far", (3, 1)), "(())")
        self.check(("whys", "far", ()), "()")
        self.check(("repairs", "far", (1, 2, 3, 4, 5, 6)), "(())")
        self.check(("whys", "three", ()), "((0),(1),(2))")
        self.check(("repairs", "three", ()), "((0,1,2))")
        self.ask("define", "given", ("row", (7,)))
        self.check(("whys", "given", (7,)), "(())")
        self.check(("repairs", "given", (7,)), "()")
        for word in ("whys", "repairs", "normal"):
            self.unchanged(write((word, "fars", (1, 3))), "!UnknownView")

    def test_normal(self):
        self.check(("normal", "two", (1, 3)), "((((0,1),(1,1)),1))")
        self.check(("normal", "three", ()), "((((0,1)),1),(((1,1)),1),(((2,1)),1))")
        self.check(("normal", "two", (3, 3)), "()")
        self.check(("normal", "far", (1, 3)), "((((0,1),(1,1)),1),(((2,1)),1))")
        self.ask("define", "given", ("row", (7,)))
        self.check(("normal", "given", (7,)), "(((),1))")
        self.ask("add", "edge", (2, 2))
        self.unchanged(write(("normal", "far", (1, 3))), "!NoStar")
        self.unchanged(write(("normal", "far", (1, 2))), "!NoStar")

    def test_facts(self):
        self.check(("facts",), "((4:edge,(1,2),1),(4:edge,(2,3),1),(4:edge,(1,3),1),(4:node,(3),1))")
        self.ask("give", 2)
        self.check(("facts",), "((4:edge,(1,2),1),(4:edge,(2,3),1),(4:edge,(1,3),0),(4:node,(3),1))")
        self.assertEqual(Desk([]).answer("(5:facts)"), "()")

    def test_too_large(self):
        desk = Desk([("one", 1), ("two", 1)])
        for k in range(200):
            self.assertEqual(desk.answer(write(("add", ("one", "two")[k % 2], (k,)))), str(k))
        self.assertEqual(desk.answer("(3:add,3:one,(999))"), "!TooLarge")
        self.assertEqual(desk.answer("(3:add,3:one,(0))"), "!DuplicateFact")
        one, two = ("keep", ("table", "one"), ()), ("keep", ("table", "two"), ())
        self.assertEqual(desk.answer(write(("define", "both", ("join", one, two, ())))), "()")
        for word in ("whys", "normal"):
            self.assertEqual(desk.answer(write((word, "both", ()))), "!TooLarge")
        product = ("join", ("table", "one"), ("table", "two"), ())
        self.assertEqual(desk.answer(write(("define", "all", product))), "!TooLarge")
        for name in list("abcdefghijklmnopqrstuvwxyz") + ["aa", "bb", "cc"]:
            self.assertEqual(desk.answer(write(("define", name, ("none", 0)))), "()")
        self.assertEqual(desk.answer("(6:define,4:last,(4:none,0))"), "!TooLarge")
        self.assertEqual(len(desk.lines()), 230)
        self.check_repeated(desk, [("facts",), ("rows", "both"), ("rows", "a"), ("rows", "all")])

    def check_repeated(self, desk, questions):
        other = Desk([("one", 1), ("two", 1)])
        for line in desk.lines():
            other.answer(line)
        for question in questions:
            self.assertEqual(other.answer(write(question)), desk.answer(write(question)))

    def test_tables(self):
        for tables in ([("Edge", 2)], [("edge", 0)], [("edge", 5)], [("edge", 2), ("edge", 2)]):
            with self.assertRaises(InvalidArgument):
                Desk(tables)
        tables = [("edge", 2)]
        desk = Desk(tables)
        tables.clear()
        self.assertEqual(desk.answer("(3:add,4:edge,(1,2))"), "0")

    def test_answers_are_written_forms(self):
        for question in QUESTIONS:
            self.assertEqual(write(read(self.ask(*question))), self.ask(*question))


class RefusedTest(DeskCase):
    def test_lines_that_are_no_written_form(self):
        for line in ("", " ", "facts", "(5:facts", "5:facts)", "(5:facts) ", " (5:facts)", "(5:facts)\n",
                     "(5:facts,)", "(4:undo", "(4:undo))", "(4:give,00)", "(4:give,-0)", "(4:give, 0)",
                     "(4:give,0)(4:give,1)", "(4:give," + "1" * 61 + ")", "(3:add,4:edge,(1,1:%))",
                     "(3:add,4:edge,(1,1:\xe4))", "('facts',)", "(" * 100000, "?", "!", "%", "\x00",
                     "(6:define,1:x," + "(" * 40 + ")" * 40 + ")"):
            self.unchanged(line, "?")

    def test_things_that_are_no_tuples_of_a_desk(self):
        for thing in (
            0, 7, -3, "", "facts", "undo", (), (5,), ((),), (("facts",),), ("fact",), ("Facts",), ("",),
            ("facts", ()), ("facts", "facts"), ("undo", 1), ("undo", ()), ("redo",), ("rows",),
            ("rows", "far", ()), ("rows", 5), ("rows", ()), ("rows", ("far",)), ("give",), ("give", ()),
            ("give", "0"), ("give", (0,)), ("give", 0, 0), ("back",), ("back", "0"), ("back", ()),
            ("back", 0, 1), ("add",), ("add", "edge"), ("add", "edge", (5, 5), 1), ("add", "edge", 5, 5),
            ("add", "edge", 5), ("add", "edge", "a"), ("add", 5, (5, 5)), ("add", (), (5, 5)),
            ("add", ("edge",), (5, 5)), ("add", (5, 5), "edge"), ("add", "edge", (5, ())),
            ("add", "edge", ((5,), 5)), ("add", "edge", (5, "x" * 21)), ("add", "edge", (1,) * 7),
            ("add", "edges", (1,) * 7), ("add", "edge", ((5, 5),)), ("define",), ("define", "x"),
            ("define", "x", 5), ("define", "x", "edge"), ("define", 5, EDGE), ("define", EDGE, "x"),
            ("define", (), EDGE), ("define", "x", "table", "edge"), ("define", "x", EDGE, EDGE),
            ("whys",), ("whys", "far"), ("whys", "far", 1, 3), ("whys", "far", 1), ("whys", 5, (1, 3)),
            ("whys", "far", "a"), ("whys", "far", ((1, 3),)), ("whys", "far", (1,) * 7),
            ("whys", "far", (1, 3), ()), ("repairs", "far"), ("repairs", "far", 5),
            ("repairs", (), (1, 3)), ("repairs", "far", ("x" * 21,)), ("repairs", "none", 5),
            ("normal", "two"), ("normal", 5, ()), ("normal", "two", 1), ("normal", "two", ((),)),
            ("normal", "two", (1, 3), 5), (0, "facts"), (("add",), "edge", (5, 5)), nested(40),
            (nested(20), "edge", (5, 5)), ("lines",), ("answer", "(5:facts)"), ("bring_back", 0),
        ):
            self.unchanged(write(thing), "?")

    def test_lines_in_which_one_character_is_changed(self):
        kinds = {"?": 0, "!": 0, "": 0}
        for thing in (("give", 1), ("add", "node", (5,)), ("rows", "far"), ("define", "x", EDGE)):
            for line in changed_texts(write(thing), "0:(,a"):
                desk = Desk(TABLES)
                desk.answer("(3:add,4:edge,(1,2))")
                before = desk.answer("(5:facts)")
                answer = desk.answer(line)
                kind = answer if answer == "?" else answer[0] if answer[0] == "!" else ""
                kinds[kind] += 1
                try:
                    thing = read(line)
                except ValueError:
                    self.assertEqual(answer, "?")
                if kind:
                    self.assertEqual(desk.answer("(5:facts)"), before)
                    self.assertEqual(desk.lines(), ["(3:add,4:edge,(1,2))"])
        self.assertTrue(all(many > 3 for many in kinds.values()), kinds)


class LinesTest(DeskCase):
    def test_those_that_changed_the_engine_alone(self):
        desk = Desk(TABLES)
        self.assertEqual(desk.lines(), [])
        changes = ["(3:add,4:edge,(1,2))", "(6:define,3:far,(5:paths,(5:table,4:edge)))", "(4:give,0)",
                   "(4:undo)", "(4:give,0)", "(4:back,0)", "(4:undo)"]
        idle = ["(4:back,7)", "(5:facts)", "(4:rows,3:far)", "?", "", "(3:add,4:edge,(1,2))",
                "(4:whys,3:far,(1,2))", "(7:repairs,3:far,(1,2))", "(6:normal,3:far,(1,2))", "(4:undo,1)"]
        for change in changes:
            for line in idle:
                if line != changes[0] or desk.lines():
                    desk.answer(line)
            self.assertIn(desk.answer(change), ("0", "()"))
        self.assertEqual(desk.lines(), changes)

    def test_they_belong_to_the_caller(self):
        lines = self.desk.lines()
        self.desk.lines().clear()
        self.desk.lines().append("(4:undo)")
        self.assertEqual(self.desk.lines(), lines)
        self.assertEqual(len(lines), 7)

    def test_desks_at_random_and_second_desks(self):
        answers = {}
        for seed in range(120):
            chance = random.Random(seed)
            desk, engine, views = Desk(TABLES), Engine(TABLES), {}
            for _ in range(30):
                thing = some_line(chance, views, engine.facts().count())
                answer = desk.answer(write(thing))
                self.assertEqual(answer, plain_answer(engine, thing), (seed, thing))
                views = {view: engine.arity(view) for view in engine.views()}
                kind = (thing[0], answer if answer.startswith("!") else "")
                answers[kind] = answers.get(kind, 0) + 1
            other = Desk(TABLES)
            for line in desk.lines():
                self.assertFalse(other.answer(line).startswith("!"))
            self.assertEqual(other.lines(), desk.lines())
            for _ in range(40):
                line = write(some_line(chance, views, engine.facts().count()))
                self.assertEqual(desk.answer(line), other.answer(line))
            self.assertEqual(other.lines(), desk.lines())
        for kind in (
            ("add", ""), ("add", "!UnknownTable"), ("add", "!InvalidArgument"), ("add", "!DuplicateFact"),
            ("give", ""), ("give", "!UnknownFact"), ("give", "!WrongState"), ("back", ""),
            ("back", "!UnknownFact"), ("back", "!WrongState"), ("define", ""), ("define", "!QueryError"),
            ("define", "!DuplicateView"), ("define", "!InvalidArgument"), ("undo", ""),
            ("undo", "!NothingToUndo"), ("rows", ""), ("rows", "!UnknownView"), ("whys", ""),
            ("whys", "!UnknownView"), ("repairs", ""), ("normal", ""), ("facts", ""),
        ):
            self.assertGreater(answers.get(kind, 0), 0, kind)


if __name__ == "__main__":
    unittest.main()
