"""Listing: how many plans keep a problem, and which one has which index; each plan stands for its normal plan."""

from thenbeside.basics import is_index, require, sets_of, without
from thenbeside.plans import joined, normal_of, tasks_in
from thenbeside.rules import check_chosen, check_problem, choices_of
from thenbeside.solving import all_tasks, is_answer
from thenbeside.sticking import may_be_split

MOST_INDEX = 2000000
MOST_LISTED = 20


def count_plans(problem):
    """Return the number of the plans that keep the problem."""
    check_problem(problem)
    return count_all(ways_of(problem), all_tasks(problem))


def count_among(problem, chosen):
    """Return the number of the plans in order for the chosen tasks alone."""
    check_chosen(problem, chosen, 1)
    return count_all(ways_of(problem), chosen)


def nth_plan(problem, index):
    """Return the plan with the index among those that keep the problem."""
    check_problem(problem)
    tasks = all_tasks(problem)
    ways = ways_of(problem)
    require(is_index(index, count_all(ways, tasks)), "index")
    return plan_at(ways, tasks, index)


def index_of_plan(problem, value):
    """Return the index of the normal plan of the value, or None if the value is not a plan that keeps the problem."""
    check_problem(problem)
    if not is_answer(problem, "plan", value):
        return None
    return index_in(ways_of(problem), normal_of(value))


def plans_from(problem, index, many):
    """Return the list of so many plans that keep the problem, from the index on, or of fewer if there are no more."""
    check_problem(problem)
    require(is_index(index, MOST_INDEX + 1), "index")
    require(is_index(many, MOST_LISTED + 1), "many")
    tasks = all_tasks(problem)
    ways = ways_of(problem)
    end = min(index + many, count_all(ways, tasks))
    return [plan_at(ways, tasks, at) for at in range(index, end)]


# A way to put plans for a set of tasks together is a tuple (word, part, rest, many): a plan for the part that is
# not the word itself, and a plan for the rest, are joined by the word; many is the number of the plans made so.
# The functions below are given a dict with the list of the ways, in order, for each set of tasks.


def ways_of(problem):
    """Return the ways for each set of tasks of the problem."""
    choices = choices_of(problem)
    tasks = all_tasks(problem)
    ways = {}
    # Sets of fewer tasks come first: the ways for a part and for the rest are there when they are counted.
    for chosen in sets_of(tasks, 1, len(tasks)):
        ways[chosen] = [(word, part, rest, count_other(ways, part, word) * count_all(ways, rest))
                        for word, part, rest in divisions(choices, chosen)]
    return ways


def divisions(choices, chosen):
    """Return the list of the tuples (word, part, rest) from which plans for the chosen tasks are made, in order."""
    found = []
    for word in ("beside", "then"):
        for part in sets_of(chosen, 1, len(chosen) - 1):
            rest = without(chosen, part)
            # With the least task in the rest of a "beside", the same plans would be made once more.
            if (word == "then" or chosen[0] in part) and may_be_split(choices, word, part, rest):
                found.append((word, part, rest))
    return found


def count_all(ways, chosen):
    """Return the number of the plans for the chosen tasks."""
    return 1 if len(chosen) == 1 else sum(way[3] for way in ways[chosen])


def count_with(ways, chosen, word):
    """Return the number of the plans for the chosen tasks that are themselves the word."""
    return sum(way[3] for way in ways[chosen] if way[0] == word)


def count_other(ways, chosen, word):
    """Return the number of the plans for the chosen tasks that are not themselves the word."""
    return count_all(ways, chosen) - count_with(ways, chosen, word)


def count_passed(ways, part, word):
    """Return the number of the plans for the part that are passed over ahead of those that are not the word."""
    # The plans "beside" stand ahead of all others, the plans "then" behind them.
    return count_with(ways, part, word) if word == "beside" else 0


def plan_at(ways, chosen, index):
    """Return the plan with the index, which there is, among the plans for the chosen tasks."""
    if len(chosen) == 1:
        return chosen[0]
    at = 0
    left = index
    while left >= ways[chosen][at][3]:
        left -= ways[chosen][at][3]
        at += 1
    word, part, rest, _ = ways[chosen][at]
    of_part, of_rest = divmod(left, count_all(ways, rest))
    first = plan_at(ways, part, count_passed(ways, part, word) + of_part)
    return joined(word, [first, plan_at(ways, rest, of_rest)])


def index_in(ways, plan):
    """Return the index of the plan, which is normal and made in one of the ways, among the plans for its tasks."""
    if isinstance(plan, int):
        return 0
    word, pieces = plan
    first = pieces[0]
    second = joined(word, pieces[1:])
    part = set_in(first)
    made = ways[set_in(plan)]
    at = [way[:2] for way in made].index((word, part))
    of_part = index_in(ways, first) - count_passed(ways, part, word)
    behind = of_part * count_all(ways, set_in(second)) + index_in(ways, second)
    return sum(way[3] for way in made[:at]) + behind


def set_in(plan):
    """Return the set of the tasks of the plan."""
    return tuple(sorted(tasks_in(plan)))
