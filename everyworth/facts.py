"""The store of facts: tables, and facts that are there or given up (point 5)."""

from everyworth.errors import DuplicateFact, InvalidArgument, UnknownFact, UnknownTable, WrongState
from everyworth.kinds import is_between
from everyworth.values import is_name

LARGEST_ARITY = 4


class Facts:
    """Facts in tables, numbered from 0 in the order in which they were added."""

    def __init__(self, tables):
        self._arities = _checked(tables)
        # Each fact as the pair of its table and row, and beside it whether it is there.
        self._pairs = []
        self._states = []
        self._numbers = {}
        self._in_table = {table: [] for table in self._arities}

    def tables(self):
        """Return the list of the pairs of a table and its arity."""
        return list(self._arities.items())

    def arity(self, table):
        """Return the arity of a table."""
        self._need_table(table)
        return self._arities[table]

    def add(self, table, row):
        """Add a fact, which is there, and return its number."""
        arity = self.arity(table)
        if len(row) != arity:
            raise InvalidArgument("the row has another length than the arity of the table")
        if (table, row) in self._numbers:
            raise DuplicateFact("there is such a fact already")
        number = len(self._pairs)
        self._numbers[(table, row)] = number
        self._pairs.append((table, row))
        self._states.append(True)
        self._in_table[table].append(number)
        return number

    def give_up(self, number):
        """Give up a fact that is there."""
        if not self.is_there(number):
            raise WrongState("the fact is given up already")
        self._states[number] = False

    def bring_back(self, number):
        """Bring back a fact that is given up."""
        if self.is_there(number):
            raise WrongState("the fact is there already")
        self._states[number] = True

    def fact(self, number):
        """Return the pair of the table and the row of a fact."""
        self._need_fact(number)
        return self._pairs[number]

    def is_there(self, number):
        """Tell whether a fact is there, and not given up."""
        self._need_fact(number)
        return self._states[number]

    def find(self, table, row):
        """Return the number of the fact with this table and row, or None."""
        self._need_table(table)
        return self._numbers.get((table, row))

    def rows(self, table):
        """Return the pairs of number and row of the facts of a table that are there."""
        self._need_table(table)
        numbers = [number for number in self._in_table[table] if self._states[number]]
        return [(number, self._pairs[number][1]) for number in numbers]

    def count(self):
        """Return the number of all facts, there or given up."""
        return len(self._pairs)

    def copy(self):
        """Return an independent store with the same facts."""
        twin = Facts(self.tables())
        for table, row in list(self._pairs):
            twin.add(table, row)
        for number in range(self.count()):
            if not self._states[number]:
                twin.give_up(number)
        return twin

    def _need_table(self, table):
        if table not in self._arities:
            raise UnknownTable("there is no such table")

    def _need_fact(self, number):
        if not 0 <= number < len(self._pairs):
            raise UnknownFact("there is no such fact")


def _checked(tables):
    arities = {}
    for name, arity in tables:
        if not is_name(name) or name in arities:
            raise InvalidArgument("the name of a table is malformed or occurs twice")
        if not is_between(arity, 1, LARGEST_ARITY):
            raise InvalidArgument("the arity of a table is not from 1 to 4")
        arities[name] = arity
    return arities
