"""Plans: tasks that are arranged by "then" and "beside"."""

from thenbeside.basics import MOST_TASKS, is_index, is_order, is_set, is_size, require
from thenbeside.errors import TooLarge

WORDS = ("then", "beside")


def is_plan(value, size):
    """Tell whether the value is a plan for the size."""
    return is_size(size) and size_of(value) == size


def normal(plan):
    """Return the normal plan that means the same."""
    checked_size(plan)
    return normal_of(plan)


def relation(plan, first, second):
    """Return the relation of the first task to the second one."""
    check_two_tasks(plan, first, second)
    return relation_in(plan, first, second)


def joint(plan, first, second):
    """Return the pair of the word of the joint of the two tasks and the ascending tuple of its tasks."""
    check_two_tasks(plan, first, second)
    least = joint_in(plan, first, second)
    return (least[0], tuple(sorted(tasks_in(least))))


def restricted(plan, chosen):
    """Return what is left of the plan if all tasks but the chosen ones are left out."""
    size = checked_size(plan)
    require(is_set(chosen, size) and len(chosen) > 0, "chosen")
    return left_of(plan, chosen)


def turned(plan):
    """Return the plan with the parts of each "then" in the opposite sequence."""
    checked_size(plan)
    return turned_of(plan)


def renamed(plan, order):
    """Return the plan with order[x] in the place of each task x."""
    size = checked_size(plan)
    require(is_order(order, size), "order")
    return renamed_of(plan, order)


def put_together(word, plans):
    """Return one plan with the word in which the tasks of each plan are numbered behind those ahead of it."""
    require(word in WORDS, "word")
    require(isinstance(plans, tuple) and len(plans) > 0, "plans")
    require(all(size_of(plan) > 0 for plan in plans), "plans")
    if sum(size_of(plan) for plan in plans) > MOST_TASKS:
        raise TooLarge("tasks")
    numbered = []
    start = 0
    for plan in plans:
        size = size_of(plan)
        numbered.append(renamed_of(plan, list(range(start, start + size))))
        start += size
    return joined(word, numbered)


def size_of(value):
    """Return the size for which the value is a plan, or 0 if it is not a plan for any size."""
    found = []
    waiting = [("", value)]
    while waiting:
        outer, item = waiting.pop()
        if is_index(item, MOST_TASKS):
            found.append(item)
        elif has_parts(item) and item[0] != outer:
            waiting.extend([(item[0], piece) for piece in item[1]])
        else:
            return 0
        # Each item that waits would contain a task at least: so values are refused soon, however deep they are.
        if len(found) + len(waiting) > MOST_TASKS:
            return 0
    return len(found) if is_order(tuple(found), len(found)) else 0


def has_parts(value):
    """Tell whether the value is a word with a tuple of as many items as a plan can have parts, of any kind."""
    if not isinstance(value, tuple) or len(value) != 2 or value[0] not in WORDS:
        return False
    return isinstance(value[1], tuple) and 2 <= len(value[1]) <= MOST_TASKS


def checked_size(plan):
    """Return the size of the plan; raise BadValue if it is not a plan."""
    size = size_of(plan)
    require(size > 0, "plan")
    return size


def check_two_tasks(plan, first, second):
    """Raise BadValue unless the first and the second one are two different tasks of the plan."""
    size = checked_size(plan)
    require(is_index(first, size), "first")
    require(is_index(second, size) and second != first, "second")


# The functions below are given plans and parts of plans that have been checked.


def tasks_in(plan):
    """Return the list of the tasks in the sequence in which they stand in the plan."""
    if isinstance(plan, int):
        return [plan]
    return [task for piece in plan[1] for task in tasks_in(piece)]


def least_task(plan):
    """Return the least task of the plan."""
    return min(tasks_in(plan))


def joint_in(plan, first, second):
    """Return the least part of the plan that contains both tasks."""
    for piece in plan[1]:
        inside = tasks_in(piece)
        if first in inside and second in inside:
            return joint_in(piece, first, second)
    return plan


def relation_in(plan, first, second):
    """Return the relation of the first task to the second one, which is another one."""
    least = joint_in(plan, first, second)
    if least[0] == "beside":
        return "beside"
    # The two tasks stand in different parts, and all tasks of an earlier part stand ahead of those of a later one.
    standing = tasks_in(least)
    return "before" if standing.index(first) < standing.index(second) else "after"


def normal_of(plan):
    """Return the plan with the parts of each "beside" in the order of their least tasks."""
    if isinstance(plan, int):
        return plan
    word, parts = plan
    pieces = [normal_of(piece) for piece in parts]
    if word == "beside":
        pieces = sorted(pieces, key=least_task)
    return (word, tuple(pieces))


def turned_of(plan):
    """Return the plan with the parts of each "then" in the opposite sequence."""
    if isinstance(plan, int):
        return plan
    word, parts = plan
    pieces = [turned_of(piece) for piece in parts]
    if word == "then":
        pieces = pieces[::-1]
    return (word, tuple(pieces))


def renamed_of(plan, order):
    """Return the plan with order[x] in the place of each task x."""
    if isinstance(plan, int):
        return order[plan]
    word, parts = plan
    return (word, tuple([renamed_of(piece, order) for piece in parts]))


def left_of(plan, chosen):
    """Return what is left of a plan that contains some of the chosen tasks, the k-th of these numbered k."""
    if isinstance(plan, int):
        return chosen.index(plan)
    word, parts = plan
    return joined(word, [left_of(piece, chosen) for piece in parts if has_one_of(piece, chosen)])


def has_one_of(plan, chosen):
    """Tell whether the plan contains one of the chosen tasks."""
    return any(task in chosen for task in tasks_in(plan))


def joined(word, pieces):
    """Return the pieces, at least one, as parts of one plan with the word; one piece alone stays as it is."""
    parts = []
    for piece in pieces:
        # What has the word itself cannot be a part under it.
        if isinstance(piece, tuple) and piece[0] == word:
            parts.extend(piece[1])
        else:
            parts.append(piece)
    return parts[0] if len(parts) == 1 else (word, tuple(parts))
