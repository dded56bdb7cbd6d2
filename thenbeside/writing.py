"""Writing plans and problems as texts."""

from thenbeside.plans import checked_size
from thenbeside.rules import check_problem
from thenbeside.scanning import TASKS


def plan_text(plan):
    """Return the text of the plan."""
    checked_size(plan)
    return text_of(plan)


def problem_text(problem):
    """Return the text of the problem."""
    check_problem(problem)
    size, rules = problem
    if rules == ():
        return f"{size}:"
    return f"{size}: " + ", ".join([rule_text(rule) for rule in rules])


# The functions below are given what has been checked.


def text_of(plan):
    """Return the text of a plan or of a part of one, without parentheses around it."""
    if isinstance(plan, int):
        return TASKS[plan]
    word, parts = plan
    texts = []
    for piece in parts:
        told = text_of(piece)
        texts.append(told if isinstance(piece, int) else f"({told})")
    between = f" {word} "
    return between.join(texts)


def rule_text(rule):
    """Return the text of the rule."""
    first, listed, second = rule
    relations = "|".join(listed)
    return f"{TASKS[first]} {relations} {TASKS[second]}"
