"""Shapes that the table of a plan does not have, and the plan of a table that has none of them."""

from itertools import permutations

from thenbeside.basics import are_indexes
from thenbeside.sticking import answer_in
from thenbeside.tables import checked_table_size


def flaw(table):
    """Return the first flaw of the table, a gap if there is one, or None if there is no flaw."""
    size = checked_table_size(table)
    for a, b, c in permutations(range(size), 3):
        if is_gap(table, a, b, c):
            return ("gap", a, b, c)
    for a, b, c, d in permutations(range(size), 4):
        if is_n(table, a, b, c, d):
            return ("N", a, b, c, d)
    return None


def shows_flaw(table, value):
    """Tell whether the judge accepts the value as a flaw of the table."""
    size = checked_table_size(table)
    if not isinstance(value, tuple) or len(value) not in (4, 5) or not are_indexes(value[1:], size):
        return False
    if len(value) == 4:
        return value[0] == "gap" and is_gap(table, value[1], value[2], value[3])
    return value[0] == "N" and is_n(table, value[1], value[2], value[3], value[4])


def plan_of(table):
    """Return the normal plan with the table, or None if there is none."""
    size = checked_table_size(table)
    # A plan has the table if each two tasks have the one relation that the table allows them.
    choices = [[(entry,) for entry in row] for row in table]
    word, found = answer_in(choices, tuple(range(size)))
    return found if word == "plan" else None


# That the tasks are different need not be looked at below: the entry for a task and itself is none of the relations.


def is_gap(table, a, b, c):
    """Tell whether a is before b, and b before c, but a not before c."""
    return table[a][b] == "before" and table[b][c] == "before" and table[a][c] != "before"


def is_n(table, a, b, c, d):
    """Tell whether a and b are before c, b is before d, and the other pairs of the four are beside one another."""
    if table[a][c] != "before" or table[b][c] != "before" or table[b][d] != "before":
        return False
    return table[a][b] == "beside" and table[c][d] == "beside" and table[a][d] == "beside"
