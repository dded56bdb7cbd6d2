"""Rows of plans: the tasks one after another, none of them ahead of one that is before it."""

from math import factorial

from thenbeside.basics import is_order, require
from thenbeside.plans import checked_size, relation_in, tasks_in


def count_rows(plan):
    """Return the number of the rows of the plan."""
    checked_size(plan)
    return rows_in(plan)


def is_row_of(plan, row):
    """Tell whether the row is one of the rows of the plan."""
    size = checked_size(plan)
    require(is_order(row, size), "row")
    for at, task in enumerate(row):
        if any(relation_in(plan, other, task) == "before" for other in row[at + 1:]):
            return False
    return True


def rows_in(plan):
    """Return the number of the rows of a plan or of a part of one."""
    if isinstance(plan, int):
        return 1
    word, parts = plan
    many = mixings(parts) if word == "beside" else 1
    for piece in parts:
        many *= rows_in(piece)
    return many


def mixings(parts):
    """Return the number of ways in which rows of the parts, one of each, can be mixed."""
    counts = [len(tasks_in(piece)) for piece in parts]
    ways = factorial(sum(counts))
    for many in counts:
        ways = ways // factorial(many)
    return ways
