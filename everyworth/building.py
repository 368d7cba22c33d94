"""The circuits of queries: for each row of the meaning a node of a store (point 18)."""

from everyworth.errors import TooLarge
from everyworth.meaning import rows_made


def circuits_of(query, facts, views, circuits):
    """Return the dict from the rows of a query to their nodes."""
    before = circuits.count()
    try:
        return rows_made(query, facts, views, circuits)
    except TooLarge:
        circuits.forget(before)
        raise
