"""Grounds that a set is stuck: pairs of tasks that show it by simple looks."""

from thenbeside.basics import are_indexes
from thenbeside.rules import check_chosen, choices_of
from thenbeside.sticking import is_stuck_in, links


def grounds_for(problem, chosen):
    """Return grounds that the chosen set is stuck, or None if it is not."""
    check_chosen(problem, chosen, 1)
    choices = choices_of(problem)
    if not is_stuck_in(choices, chosen):
        return None
    least = chosen[0]
    ties = links(choices, chosen, least, "beside")
    there = links(choices, chosen, least, "before")
    # One task hinders another one exactly if the other one may not be after it.
    back = exchanged(links(choices, chosen, least, "after"))
    return (tuple(ties), tuple(there), tuple(back))


def accepts_grounds(problem, chosen, value):
    """Tell whether the judge accepts the value as grounds that the chosen set is stuck."""
    check_chosen(problem, chosen, 1)
    size = problem[0]
    if len(chosen) == 1 or not isinstance(value, tuple) or len(value) != 3:
        return False
    if not all(are_pairs(pairs, len(chosen) - 1, size) for pairs in value):
        return False
    choices = choices_of(problem)
    ties, there, back = value
    if not meets_all(choices, chosen, ties, "beside") or not meets_all(choices, chosen, there, "before"):
        return False
    return meets_all(choices, chosen, exchanged(back), "after")


def are_pairs(value, many, size):
    """Tell whether the value is a tuple of so many pairs of tasks below the size."""
    if not isinstance(value, tuple) or len(value) != many:
        return False
    return all(are_indexes(pair, size) and len(pair) == 2 for pair in value)


def exchanged(pairs):
    """Return the list of the pairs with the items of each one exchanged."""
    return [(pair[1], pair[0]) for pair in pairs]


def meets_all(choices, chosen, pairs, relation):
    """Tell whether each pair leads from a task that is met to one that is not, which it may not have the relation to.

    There is one pair less than tasks are chosen: so all are met if each pair meets another one."""
    met = [chosen[0]]
    for x, y in pairs:
        if x not in met or y not in chosen or y in met or relation in choices[x][y]:
            return False
        met.append(y)
    return True
