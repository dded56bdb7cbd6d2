"""Few rules that are in conflict, and few rules whose removal gives a solution."""

from thenbeside.basics import sets_of, without
from thenbeside.dropping import all_rules, by_collection, check_collection, check_few_rules
from thenbeside.rules import check_problem
from thenbeside.solving import answer_to, is_answer, is_solvable


def told_conflict(problem):
    """Return what is left if rules are left out from the last one to the first one, or None if there is a solution."""
    check_problem(problem)
    indexes = all_rules(problem)
    if can_be_kept(problem, indexes):
        return None
    left = indexes
    for index in indexes[::-1]:
        fewer = without(left, (index,))
        if not can_be_kept(problem, fewer):
            left = fewer
    return left


def smallest_conflict(problem):
    """Return the first one of the conflicts with the fewest rules, or None if there is a solution."""
    check_problem(problem)
    check_few_rules(problem)
    indexes = all_rules(problem)
    # With the fewest rules that cannot all be kept, each collection with one rule less can be.
    for collection in sets_of(indexes, 0, len(indexes)):
        if not can_be_kept(problem, collection):
            return collection
    return None


def smallest_removal(problem):
    """Return the first one of the removals with the fewest rules."""
    check_problem(problem)
    check_few_rules(problem)
    indexes = all_rules(problem)
    # Without the fewest rules that have to go, none of them can be put in again.
    for collection in sets_of(indexes, 0, len(indexes) - 1):
        if can_be_kept(problem, without(indexes, collection)):
            return collection
    return indexes


def conflict_grounds(problem, collection):
    """Return the pair of a stuck set and the tuple of plans, each without one rule, or None if there is no conflict."""
    check_collection(problem, collection)
    whole = answer_to(by_collection(problem, collection))
    fewer = [answer_to(other) for other in problems_without_one(problem, collection)]
    if whole[0] == "plan" or any(answer[0] == "set" for answer in fewer):
        return None
    return (whole[1], tuple([answer[1] for answer in fewer]))


def accepts_conflict(problem, collection, value):
    """Tell whether the judge accepts the value as grounds for the collection to be a conflict."""
    check_collection(problem, collection)
    if not is_pair_with(value, len(collection)):
        return False
    chosen, plans = value
    fewer = problems_without_one(problem, collection)
    if not is_answer(by_collection(problem, collection), "set", chosen):
        return False
    return all([is_answer(other, "plan", plan) for other, plan in zip(fewer, plans)])


def removal_grounds(problem, collection):
    """Return the pair of a plan and the tuple of stuck sets, each with one rule, or None if there is no removal."""
    check_collection(problem, collection)
    rest = answer_to(rest_without(problem, collection))
    more = [answer_to(other) for other in problems_with_one(problem, collection)]
    if rest[0] == "set" or any(answer[0] == "plan" for answer in more):
        return None
    return (rest[1], tuple([answer[1] for answer in more]))


def accepts_removal(problem, collection, value):
    """Tell whether the judge accepts the value as grounds for the collection to be a removal."""
    check_collection(problem, collection)
    if not is_pair_with(value, len(collection)):
        return False
    plan, sets = value
    more = problems_with_one(problem, collection)
    if not is_answer(rest_without(problem, collection), "plan", plan):
        return False
    return all([is_answer(other, "set", chosen) for other, chosen in zip(more, sets)])


def is_pair_with(value, many):
    """Tell whether the value is a pair of anything and a tuple of so many items."""
    if not isinstance(value, tuple) or len(value) != 2:
        return False
    return isinstance(value[1], tuple) and len(value[1]) == many


# The functions below are given what has been checked.


def can_be_kept(problem, collection):
    """Tell whether some plan keeps all rules of the collection."""
    return is_solvable(by_collection(problem, collection))


def rest_without(problem, collection):
    """Return the problem by the indexes that are not in the collection."""
    return by_collection(problem, without(all_rules(problem), collection))


def problems_without_one(problem, collection):
    """Return the list of the problems by the collection without one of its rules, for each of these."""
    return [by_collection(problem, without(collection, (index,))) for index in collection]


def problems_with_one(problem, collection):
    """Return the list of the problems by one rule of the collection and all that are not in it, for each of these."""
    return [rest_without(problem, without(collection, (index,))) for index in collection]
