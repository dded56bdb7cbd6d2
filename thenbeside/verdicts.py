"""Verdicts: which relations hold in all plans that keep a problem, which in none, and which in some."""

from thenbeside.basics import RELATIONS, is_index, require, without
from thenbeside.rules import check_pair, check_problem, with_rule
from thenbeside.solving import answer_to, check_solvable, is_answer, is_solvable


def verdict(problem, first, relation, second):
    """Return "always", "never" or "sometimes": whether the first task has the relation to the second one."""
    return evidence_for(problem, first, relation, second)[0]


def evidence_for(problem, first, relation, second):
    """Return the told evidence for the question."""
    check_question(problem, first, relation, second)
    check_solvable(problem)
    affirmed_word, affirmed = answer_to(with_affirmation(problem, first, relation, second))
    denied_word, denied = answer_to(with_contrary(problem, first, relation, second))
    if denied_word == "set":
        return ("always", denied)
    if affirmed_word == "set":
        return ("never", affirmed)
    return ("sometimes", affirmed, denied)


def accepts_verdict(problem, first, relation, second, value):
    """Tell whether the judge accepts the value as evidence for the question."""
    check_question(problem, first, relation, second)
    if not isinstance(value, tuple) or len(value) not in (2, 3):
        return False
    affirmed = with_affirmation(problem, first, relation, second)
    denied = with_contrary(problem, first, relation, second)
    if len(value) == 3:
        word, plan, other = value
        return word == "sometimes" and is_answer(affirmed, "plan", plan) and is_answer(denied, "plan", other)
    word, chosen = value
    if word == "always":
        return is_answer(denied, "set", chosen)
    return word == "never" and is_answer(affirmed, "set", chosen)


def open_relations(problem, first, second):
    """Return the tuple of the relations of the first task to the second one that are not "never", in order."""
    check_pair(problem, first, second)
    check_solvable(problem)
    return open_in(problem, first, second)


def implied_rules(problem):
    """Return the rules, in order, that allow each two tasks their open relations, where not all three are open."""
    check_problem(problem)
    check_solvable(problem)
    size = problem[0]
    rules = [(x, open_in(problem, x, y), y) for x in range(size) for y in range(x + 1, size)]
    return tuple([rule for rule in rules if rule[1] != RELATIONS])


def check_question(problem, first, relation, second):
    """Raise BadValue unless the arguments are a problem, a task of it, a relation, and another task."""
    check_problem(problem)
    require(is_index(first, problem[0]), "first")
    require(relation in RELATIONS, "relation")
    require(is_index(second, problem[0]) and second != first, "second")


# The functions below are given what has been checked.


def with_affirmation(problem, first, relation, second):
    """Return the problem with the rule besides that allows the relation alone."""
    return with_rule(problem, (first, (relation,), second))


def with_contrary(problem, first, relation, second):
    """Return the problem with the rule besides that allows the two other relations."""
    return with_rule(problem, (first, without(RELATIONS, (relation,)), second))


def open_in(problem, first, second):
    """Return the tuple of the open relations of the first task to the second one, in order."""
    words = [word for word in RELATIONS if is_solvable(with_affirmation(problem, first, word, second))]
    return tuple(words)
