"""Everything that the document lists stands under its name in its own file."""

import importlib
import inspect
import unittest

SEMIRING = {
    "zero": ["self"], "one": ["self"], "plus": ["self", "a", "b"], "times": ["self", "a", "b"],
    "star": ["self", "a"], "is_element": ["self", "a"],
}
STORE = {
    "__init__": ["self", "tables"], "tables": ["self"], "arity": ["self", "table"],
    "add": ["self", "table", "row"], "give_up": ["self", "number"],
    "bring_back": ["self", "number"], "fact": ["self", "number"], "is_there": ["self", "number"],
    "find": ["self", "table", "row"], "rows": ["self", "table"], "count": ["self"],
    "copy": ["self"],
}
CLASSES = {
    "everyworth.facts": {"Facts": STORE},
    "everyworth.semirings": {
        "Numbers": SEMIRING, "Costs": SEMIRING,
        "Levels": {"__init__": ["self", "top"], **SEMIRING},
        "Events": {"__init__": ["self", "count"], **SEMIRING},
    },
    "everyworth.whys": {"Whys": SEMIRING},
    "everyworth.polynomials": {"Polynomials": SEMIRING},
    "everyworth.finite": {
        "Finite": {
            "__init__": ["self", "plus_table", "times_table", "one", "stars"], "size": ["self"],
            **SEMIRING,
        },
    },
    "everyworth.mixed": {"Both": {"__init__": ["self", "first", "second"], **SEMIRING}},
    "everyworth.circuits": {
        "Circuits": {
            "__init__": ["self"], "fact": ["self", "k"], "plus": ["self", "nodes"],
            "times": ["self", "nodes"], "star": ["self", "node"], "shown": ["self", "node"],
            "count": ["self"], "facts_in": ["self", "node"],
        },
    },
    "everyworth.engine": {
        "Engine": {
            "__init__": ["self", "tables"], "add": ["self", "table", "row"],
            "give_up": ["self", "number"], "bring_back": ["self", "number"],
            "define": ["self", "name", "query"], "undo": ["self"], "facts": ["self"],
            "circuits": ["self"], "views": ["self"], "query": ["self", "view"],
            "arity": ["self", "view"], "queries": ["self"], "rows": ["self", "view"],
            "node": ["self", "view", "row"], "changed": ["self"],
            "worth": ["self", "view", "row", "semiring", "worths"],
        },
    },
    "everyworth.tops": {"Tops": {"__init__": ["self", "k"], **SEMIRING}},
    "everyworth.slopes": {"Slopes": SEMIRING},
    "everyworth.desk": {
        "Desk": {"__init__": ["self", "tables"], "answer": ["self", "line"], "lines": ["self"]},
    },
}
FUNCTIONS = {
    "everyworth.values": {
        "is_name": ["thing"], "is_value": ["thing"], "is_row": ["thing"], "in_order": ["rows"],
    },
    "everyworth.polynomials": {
        "variable": ["fact"], "degree": ["polynomial"], "value_at": ["polynomial", "numbers"],
    },
    "everyworth.queries": {
        "arity_of": ["query", "tables", "views"], "names_in": ["query", "kind"],
    },
    "everyworth.meaning": {"meaning": ["query", "facts", "views", "semiring", "worths"]},
    "everyworth.circuits": {
        "worth": ["circuits", "node", "semiring", "worths"],
        "put_in": ["circuits", "node", "nodes"], "leaves": ["circuits", "node"],
    },
    "everyworth.building": {"circuits_of": ["query", "facts", "views", "circuits"]},
    "everyworth.reasons": {
        "least_whys": ["engine", "view", "row"], "repairs": ["engine", "view", "row"],
        "missing": ["engine", "view", "row", "candidates"],
        "rows_left": ["engine", "view", "numbers"],
    },
    "everyworth.trees": {
        "tree_of": ["facts", "views", "query", "row", "numbers"],
        "facts_used": ["facts", "views", "query", "row", "tree"],
    },
    "everyworth.chances": {"chance": ["whys", "chances"]},
    "everyworth.normal": {
        "normal": ["circuits", "node"], "same_worth": ["circuits", "one", "other"],
        "witness": ["circuits", "one", "other"], "factored": ["circuits", "node"],
    },
    "everyworth.totals": {
        "totals": ["engine", "view", "columns", "column"],
        "in_numbers": ["circuits", "total", "worths"],
        "in_events": ["circuits", "total", "count", "worths"],
    },
    "everyworth.notation": {
        "write": ["thing"], "read": ["text"], "store_text": ["facts"], "read_store": ["text"],
    },
    "everyworth.tops": {"best_costs": ["circuits", "node", "k", "costs"]},
    "everyworth.slopes": {"slope": ["circuits", "node", "fact", "numbers"]},
    "everyworth.circuittext": {
        "circuit_text": ["circuits", "node"], "read_circuit": ["circuits", "text"],
    },
    "everyworth.impacts": {"impact": ["engine", "number"]},
    "everyworth.rules": {
        "check_rule": ["rule", "tables"],
        "rule_meaning": ["rule", "facts", "semiring", "worths"],
        "maps_to": ["first", "second"], "is_map": ["first", "second", "table"],
        "contained": ["first", "second", "tables"], "alike": ["first", "second", "tables"],
    },
}


class InterfaceTest(unittest.TestCase):
    def check(self, made, module, parameters):
        self.assertEqual(made.__module__, module)
        self.assertEqual(list(inspect.signature(made).parameters), parameters, made)

    def test_methods_stand_in_their_classes(self):
        for module, classes in CLASSES.items():
            for name, methods in classes.items():
                made = getattr(importlib.import_module(module), name)
                self.assertEqual(made.__module__, module)
                for method, parameters in methods.items():
                    self.check(vars(made)[method], module, parameters)

    def test_functions_stand_in_their_files(self):
        for module, functions in FUNCTIONS.items():
            for name, parameters in functions.items():
                self.check(getattr(importlib.import_module(module), name), module, parameters)


if __name__ == "__main__":
    unittest.main()
