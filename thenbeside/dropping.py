"""Rules that can be dropped from a collection, and collections of as few rules as say the same as all."""

from thenbeside.basics import RELATIONS, is_index, is_set, require, sets_of, without
from thenbeside.errors import TooLarge
from thenbeside.rules import check_problem, with_rule
from thenbeside.solving import answer_to, check_solvable, is_answer, is_solvable

MOST_COMPARED = 8


def is_possible(problem, collection):
    """Tell whether some plan keeps the rules of the collection."""
    check_collection(problem, collection)
    return is_solvable(by_collection(problem, collection))


def can_be_dropped(problem, collection, index):
    """Tell whether every plan that keeps the other rules of the collection keeps the rule with the index, too."""
    return plan_without(problem, collection, index) is None


def grounds_for(problem, collection, index):
    """Return grounds for dropping the rule with the index from the collection, or None if it cannot be dropped."""
    check_rule_in(problem, collection, index)
    check_solvable(by_collection(problem, collection))
    answers = [answer_to(other) for other in problems_against(problem, collection, index)]
    if any(answer[0] == "plan" for answer in answers):
        return None
    return tuple([answer[1] for answer in answers])


def accepts_grounds(problem, collection, index, value):
    """Tell whether the judge accepts the value as grounds for dropping the rule with the index."""
    check_rule_in(problem, collection, index)
    others = problems_against(problem, collection, index)
    if not isinstance(value, tuple) or len(value) != len(others):
        return False
    return all([is_answer(other, "set", chosen) for other, chosen in zip(others, value)])


def plan_without(problem, collection, index):
    """Return a normal plan that keeps the other rules of the collection, but not this one, or None if there is none."""
    check_rule_in(problem, collection, index)
    check_solvable(by_collection(problem, collection))
    return plan_against(problem, collection, index)


def told_base(problem):
    """Return the told base: what is left if rules are dropped from the last one to the first one."""
    check_problem(problem)
    check_solvable(problem)
    indexes = all_rules(problem)
    left = indexes
    for index in indexes[::-1]:
        if plan_against(problem, left, index) is None:
            left = without(left, (index,))
    return left


def smallest_base(problem):
    """Return the first one of the bases with the fewest rules."""
    check_problem(problem)
    check_solvable(problem)
    check_few_rules(problem)
    indexes = all_rules(problem)
    # From the fewest rules with the same solutions none can be dropped: this is a base.
    for collection in sets_of(indexes, 0, len(indexes) - 1):
        if all(plan_against(problem, collection, index) is None for index in without(indexes, collection)):
            return collection
    return indexes


def check_collection(problem, collection):
    """Raise BadValue unless the collection is one of the problem."""
    check_problem(problem)
    require(is_set(collection, len(problem[1])), "collection")


def check_rule_in(problem, collection, index):
    """Raise BadValue unless the index is one of a collection of the problem."""
    check_collection(problem, collection)
    require(is_index(index, len(problem[1])) and index in collection, "index")


def check_few_rules(problem):
    """Raise TooLarge if the problem has too many rules for all of its collections to be compared."""
    if len(problem[1]) > MOST_COMPARED:
        raise TooLarge("rules")


# The functions below are given what has been checked.


def all_rules(problem):
    """Return the collection of all rules of the problem."""
    return tuple(range(len(problem[1])))


def by_collection(problem, collection):
    """Return the problem by the collection."""
    size, rules = problem
    return (size, tuple([rules[index] for index in collection]))


def plan_against(problem, collection, index):
    """Return a normal plan that keeps the rules of the collection other than the one with the index, and not this one.

    Return None if there is none."""
    first, listed, second = problem[1][index]
    others = by_collection(problem, without(collection, (index,)))
    # If the rule lists all three relations, none are left, and so no plan is found.
    word, found = answer_to(with_rule(others, (first, without(RELATIONS, listed), second)))
    return found if word == "plan" else None


def problems_against(problem, collection, index):
    """Return the list of the problems by the collection with one relation that the rule does not list in its place."""
    first, listed, second = problem[1][index]
    others = by_collection(problem, without(collection, (index,)))
    return [with_rule(others, (first, (relation,), second)) for relation in without(RELATIONS, listed)]
