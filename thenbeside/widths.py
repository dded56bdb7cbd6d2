"""How many tasks of a plan are beside one another, and what shows that there are not more."""

from thenbeside.basics import is_order, is_set, sets_of
from thenbeside.plans import checked_size, relation_in
from thenbeside.times import is_chain


def width(plan):
    """Return the greatest number of tasks that are abreast."""
    checked_size(plan)
    return len(widest_in(plan))


def widest_set(plan):
    """Return the first one of the sets of as many tasks as can be abreast."""
    checked_size(plan)
    return widest_in(plan)


def count_abreast(plan):
    """Return the number of the sets of tasks that are abreast, the empty one and those of one task among them."""
    checked_size(plan)
    return abreast_in(plan)


def width_grounds(plan):
    """Return the pair of the widest set and a cover with as many chains: grounds for the width."""
    checked_size(plan)
    return (widest_in(plan), tuple([tuple(row) for row in chains_in(plan)]))


def accepts_width(plan, value):
    """Tell whether the judge accepts the value as grounds for the width."""
    size = checked_size(plan)
    if not isinstance(value, tuple) or len(value) != 2:
        return False
    chosen, cover = value
    if not is_set(chosen, size) or not are_abreast(plan, chosen):
        return False
    return isinstance(cover, tuple) and len(cover) == len(chosen) and is_cover(plan, cover, size)


# The functions below are given plans, and parts of plans, that have been checked.


def are_abreast(plan, chosen):
    """Tell whether each two of the chosen tasks are beside one another."""
    return all(relation_in(plan, first, second) == "beside" for first, second in sets_of(chosen, 2, 2))


def is_cover(plan, rows, size):
    """Tell whether the rows, each of which can be anything, are chains, such that each task is in exactly one."""
    if not all(is_chain(plan, row, size) for row in rows):
        return False
    return is_order(tuple([task for row in rows for task in row]), size)


def widest_in(plan):
    """Return the first one of the greatest sets of tasks that are abreast."""
    if isinstance(plan, int):
        return (plan,)
    word, parts = plan
    sets = [widest_in(piece) for piece in parts]
    if word == "beside":
        return tuple(sorted([task for chosen in sets for task in chosen]))
    most = max([len(chosen) for chosen in sets])
    return min([chosen for chosen in sets if len(chosen) == most])


def abreast_in(plan):
    """Return the number of the sets of tasks that are abreast, the empty one among them."""
    if isinstance(plan, int):
        return 2
    word, parts = plan
    many = 1
    for piece in parts:
        # Sets with tasks of several parts are abreast in a "beside" only; the empty one belongs to all parts.
        if word == "beside":
            many *= abreast_in(piece)
        else:
            many += abreast_in(piece) - 1
    return many


def chains_in(plan):
    """Return the list of the chains, lists, of a cover of the plan with as many chains as tasks can be abreast."""
    if isinstance(plan, int):
        return [[plan]]
    word, parts = plan
    found = []
    for piece in parts:
        more = chains_in(piece)
        if word == "beside":
            found.extend(more)
        else:
            found = behind_one_another(found, more)
    return found


def behind_one_another(rows, others):
    """Return the list of as many rows as the longer list has, each with one of the others behind it if there is one."""
    many = max(len(rows), len(others))
    return [row_at(rows, at) + row_at(others, at) for at in range(many)]


def row_at(rows, at):
    """Return the row with this index, or an empty one if there is none."""
    return rows[at] if at < len(rows) else []
