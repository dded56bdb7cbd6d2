"""Solving problems: a plan that keeps all rules, or a stuck set that shows that there is none."""

from thenbeside.basics import is_set, require, sets_of, without
from thenbeside.errors import NotPossible
from thenbeside.plans import WORDS, is_plan, joined, normal_of
from thenbeside.rules import check_chosen, check_problem, choices_of, is_kept
from thenbeside.sticking import answer_in, is_split, is_stuck_in, may_be_split


def solve(problem):
    """Return an answer: ("plan", plan), a normal plan that keeps the problem, or ("set", chosen), a stuck set."""
    check_problem(problem)
    return answer_to(problem)


def accepts(problem, answer):
    """Tell whether the judge accepts the answer."""
    check_problem(problem)
    return is_accepted(problem, answer)


def splits(problem, chosen):
    """Return the ascending list of all splits of the chosen set."""
    check_chosen(problem, chosen, 2)
    choices = choices_of(problem)
    found = []
    for part in sets_of(chosen, 1, len(chosen) - 1):
        rest = without(chosen, part)
        found.extend([(word, part, rest) for word in WORDS if may_be_split(choices, word, part, rest)])
    return sorted(found)


def with_split(problem, split):
    """Return a normal plan that keeps the problem and has the split, or None if there is none."""
    check_problem(problem)
    choices = choices_of(problem)
    require(is_split(choices, all_tasks(problem), split), "split")
    word, part, rest = split
    answers = [answer_in(choices, part), answer_in(choices, rest)]
    if any(answer[0] == "set" for answer in answers):
        return None
    return normal_of(joined(word, [answer[1] for answer in answers]))


def least_stuck(problem):
    """Return the first one of the stuck sets with the fewest tasks, or None if no set is stuck."""
    check_problem(problem)
    choices = choices_of(problem)
    for chosen in sets_of(all_tasks(problem), 2, problem[0]):
        if is_stuck_in(choices, chosen):
            return chosen
    return None


# The functions below are given problems that have been checked, and to which further rules may have been added.


def all_tasks(problem):
    """Return the set of all tasks of the problem."""
    return tuple(range(problem[0]))


def answer_to(problem):
    """Return an answer for the problem, ("plan", plan) with a normal plan or ("set", chosen)."""
    return answer_in(choices_of(problem), all_tasks(problem))


def is_accepted(problem, value):
    """Tell whether the value, whatever it is, is an answer that the judge accepts."""
    return isinstance(value, tuple) and len(value) == 2 and is_answer(problem, value[0], value[1])


def is_answer(problem, word, value):
    """Tell whether the value, whatever it is, is what the word tells: a plan that keeps the problem, or a stuck set."""
    size, rules = problem
    if word == "plan":
        return is_plan(value, size) and all(is_kept(rule, value) for rule in rules)
    return word == "set" and is_set(value, size) and is_stuck_in(choices_of(problem), value)


def is_solvable(problem):
    """Tell whether some plan keeps the problem."""
    return answer_to(problem)[0] == "plan"


def check_solvable(problem):
    """Raise NotPossible unless some plan keeps the problem."""
    if not is_solvable(problem):
        raise NotPossible("contradictory")
