"""The engine: views whose circuits follow when facts change (points 20 to 22)."""

from everyworth.circuits import Circuits, Reckoner, all_made
from everyworth.errors import DuplicateView, InvalidArgument, NothingToUndo, TooLarge, UnknownView
from everyworth.facts import Facts
from everyworth.meaning import Evaluation
from everyworth.queries import arity_of, names_in
from everyworth.values import in_order, is_name

MOST_FACTS = 200
MOST_VIEWS = 30
MOST_ROWS = 2000


class State:
    """Facts and views between two changes. A change makes a new state: the old one stays."""

    def __init__(self, store, defined, widths, nodes):
        self.store = store
        # For each view its query, its arity, and the dict from its rows to their nodes.
        self.defined = defined
        self.widths = widths
        self.nodes = nodes


class Engine:
    """A store of facts, views over them, and the circuits of each row of each view."""

    def __init__(self, tables):
        self._circuits = Circuits()
        self._state = State(Facts(tables), {}, {}, {})
        self._past = []
        self._changed = {}

    def add(self, table, row):
        """Add a fact, which is there, and return its number."""
        facts = self.facts()
        number = facts.add(table, row)
        if facts.count() > MOST_FACTS:
            raise TooLarge("there would be more than 200 facts")
        self._put_facts(facts, number)
        return number

    def give_up(self, number):
        """Give up a fact that is there."""
        facts = self.facts()
        facts.give_up(number)
        self._put_facts(facts, number)

    def bring_back(self, number):
        """Bring back a fact that is given up."""
        facts = self.facts()
        facts.bring_back(number)
        self._put_facts(facts, number)

    def define(self, name, query):
        """Define a view."""
        state = self._state
        if not is_name(name):
            raise InvalidArgument("the name of the view is malformed")
        if name in state.defined:
            raise DuplicateView("there is a view with this name already")
        arity = arity_of(query, dict(state.store.tables()), state.widths)
        if len(state.defined) == MOST_VIEWS:
            raise TooLarge("there would be more than 30 views")
        queries = {**state.defined, name: query}
        nodes = self._built(state.store, queries, {("view", name): True})
        self._go_on(State(state.store, queries, {**state.widths, name: arity}, nodes))

    def undo(self):
        """Take back the last change that was not taken back."""
        if not self._past:
            raise NothingToUndo("there is no change that was not taken back")
        # The old state has its nodes still: nothing is built, so nothing can be too large.
        self._enter(self._past.pop())

    def facts(self):
        """Return a copy of the store of facts."""
        return self._state.store.copy()

    def circuits(self):
        """Return the store of circuits."""
        return self._circuits

    def views(self):
        """Return the names of the views, in the order in which they were defined."""
        return list(self._state.defined)

    def query(self, view):
        """Return the query of a view."""
        self._need_view(view)
        return self._state.defined[view]

    def arity(self, view):
        """Return the arity of a view."""
        self._need_view(view)
        return self._state.widths[view]

    def queries(self):
        """Return the dict from the names of the views to their queries."""
        return dict(self._state.defined)

    def rows(self, view):
        """Return the rows of a view, ascending."""
        self._need_view(view)
        return in_order(list(self._state.nodes[view]))

    def node(self, view, row):
        """Return the node of a row of a view, 0 for a row that is not there."""
        self._need_view(view)
        return self._state.nodes[view].get(row, 0)

    def changed(self):
        """Return the dict from views to the rows whose node the last change, or undo, exchanged."""
        return {view: list(rows) for view, rows in self._changed.items()}

    def worth(self, view, row, semiring, worths):
        """Return the worth of the node of a row of a view."""
        node = self.node(view, row)
        return all_made(self._circuits, [node], Reckoner(semiring, worths))[node]

    def _need_view(self, view):
        if view not in self._state.defined:
            raise UnknownView("there is no such view")

    def _put_facts(self, facts, number):
        """Go on with other facts, of which one is new, given up or brought back."""
        table, _ = facts.fact(number)
        queries = self._state.defined
        nodes = self._built(facts, queries, {("table", table): True})
        self._go_on(State(facts, queries, self._state.widths, nodes))

    def _built(self, facts, queries, touched):
        """Return the nodes of all views; those that do not rest on what is touched stay."""
        before = self._circuits.count()
        nodes = {}
        reached = {name: True for name in touched}
        try:
            for name, query in queries.items():
                if ("view", name) in reached or _rests_on(query, reached):
                    reached[("view", name)] = True
                    nodes[name] = self._rows_built(facts, nodes, query)
                else:
                    nodes[name] = self._state.nodes[name]
        except TooLarge:
            self._circuits.forget(before)
            raise
        return nodes

    def _rows_built(self, facts, nodes, query):
        rows = Evaluation(facts, nodes, self._circuits).rows(query, {})
        if len(rows) > MOST_ROWS:
            raise TooLarge("there would be more than 2000 rows in a view")
        return rows

    def _go_on(self, state):
        self._past.append(self._state)
        self._enter(state)

    def _enter(self, state):
        self._changed = _differences(self._state.nodes, state.nodes)
        self._state = state


def _rests_on(query, reached):
    """Tell whether a table or view within a query is one of those that are reached."""
    tables = [("table", name) for name in names_in(query, "table")]
    views = [("view", name) for name in names_in(query, "view")]
    return any(part in reached for part in tables + views)


def _differences(before, after):
    """Return for each view in both the rows whose nodes differ, if there are any."""
    found = {}
    for view in before:
        if view in after:
            old, new = before[view], after[view]
            rows = [row for row in list(old) + list(new) if old.get(row, 0) != new.get(row, 0)]
            if rows:
                found[view] = in_order(rows)
    return found
