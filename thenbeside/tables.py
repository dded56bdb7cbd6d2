"""Tables: the relation of each task to each other one, whether they fit together or not."""

from thenbeside.basics import OPPOSITES, RELATIONS, is_set, is_size, require
from thenbeside.plans import checked_size, relation_in


def is_table(value, size):
    """Tell whether the value is a table of so many tasks."""
    require(is_size(size), "size")
    return is_square(value, size) and entries_fit(value)


def table_of(plan):
    """Return the table of the plan."""
    size = checked_size(plan)
    return tuple([row_of(plan, task, size) for task in range(size)])


def part(table, chosen):
    """Return the part of the table for the chosen tasks."""
    size = checked_table_size(table)
    require(is_set(chosen, size) and len(chosen) > 0, "chosen")
    return tuple([tuple([table[task][other] for other in chosen]) for task in chosen])


def turned(table):
    """Return the table with "before" and "after" exchanged."""
    checked_table_size(table)
    return tuple([tuple([OPPOSITES.get(entry, "same") for entry in row]) for row in table])


def is_bundle(table, chosen):
    """Tell whether every other task has the same relation to all of the chosen ones."""
    size = checked_table_size(table)
    require(is_set(chosen, size), "chosen")
    if len(chosen) == 0:
        return False
    others = [task for task in range(size) if task not in chosen]
    return all(looks_alike(table[task], chosen) for task in others)


def is_square(value, size):
    """Tell whether the value is a tuple of so many tuples of so many items."""
    if not isinstance(value, tuple) or len(value) != size:
        return False
    return all(isinstance(row, tuple) and len(row) == size for row in value)


def entries_fit(square):
    """Tell whether all entries are such as they are in a table."""
    tasks = list(range(len(square)))
    return all(entry_fits(square, task, other) for task in tasks for other in tasks)


def entry_fits(square, task, other):
    """Tell whether the entry for the two tasks is "same", or else the opposite of the other entry for them."""
    entry = square[task][other]
    if task == other:
        return entry == "same"
    return entry in RELATIONS and square[other][task] == OPPOSITES[entry]


def checked_table_size(table):
    """Return the number of the tasks of the table; raise BadValue if it is not a table."""
    require(isinstance(table, tuple) and is_size(len(table)), "table")
    require(is_table(table, len(table)), "table")
    return len(table)


def row_of(plan, task, size):
    """Return the row of the task in the table of the plan."""
    return tuple(["same" if other == task else relation_in(plan, task, other) for other in range(size)])


def looks_alike(row, chosen):
    """Tell whether the entries of the row for the chosen tasks are all the same."""
    return all(row[task] == row[chosen[0]] for task in chosen)
