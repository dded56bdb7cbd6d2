"""Rules that tell which relations two tasks may have, and problems made of them."""

from thenbeside.basics import OPPOSITES, RELATIONS, is_index, is_order, is_set, is_size, require
from thenbeside.plans import is_plan, relation_in

MOST_RULES = 20


def is_problem(value):
    """Tell whether the value is a problem."""
    if not isinstance(value, tuple) or len(value) != 2:
        return False
    size, rules = value
    if not is_size(size) or not isinstance(rules, tuple) or len(rules) > MOST_RULES:
        return False
    return all(is_rule(rule, size) for rule in rules)


def allowed(problem, first, second):
    """Return the tuple of the allowed relations of the first task to the second one."""
    check_pair(problem, first, second)
    return choices_of(problem)[first][second]


def keeps(problem, plan):
    """Tell whether the plan is a solution of the problem."""
    return broken(problem, plan) == ()


def broken(problem, plan):
    """Return the ascending tuple of the indexes of the rules that the plan does not keep."""
    check_problem(problem)
    size, rules = problem
    require(is_plan(plan, size), "plan")
    return tuple([index for index, rule in enumerate(rules) if not is_kept(rule, plan)])


def rule_turned(problem, index):
    """Return the rule with the index, turned round."""
    check_problem(problem)
    rules = problem[1]
    require(is_index(index, len(rules)), "index")
    first, listed, second = rules[index]
    return (second, opposites_of(listed), first)


def gathered(problem):
    """Return the problem with one rule for each two tasks that may not have all relations, or None if there is none."""
    check_problem(problem)
    size = problem[0]
    choices = choices_of(problem)
    pairs = [(x, y) for x in range(size) for y in range(x + 1, size)]
    if any(len(choices[x][y]) == 0 for x, y in pairs):
        return None
    return (size, tuple([(x, choices[x][y], y) for x, y in pairs if choices[x][y] != RELATIONS]))


def part(problem, chosen):
    """Return the part of the problem for the chosen tasks, the k-th of these numbered k."""
    check_chosen(problem, chosen, 1)
    rules = [rule for rule in problem[1] if rule[0] in chosen and rule[2] in chosen]
    return (len(chosen), tuple([(chosen.index(rule[0]), rule[1], chosen.index(rule[2])) for rule in rules]))


def turned(problem):
    """Return the problem with the opposites of the relations in each rule."""
    check_problem(problem)
    size, rules = problem
    return (size, tuple([(first, opposites_of(listed), second) for first, listed, second in rules]))


def renamed(problem, order):
    """Return the problem with each task x renamed to order[x]."""
    check_problem(problem)
    size, rules = problem
    require(is_order(order, size), "order")
    return (size, tuple([(order[first], listed, order[second]) for first, listed, second in rules]))


def is_rule(value, size):
    """Tell whether the value is a rule of so many tasks."""
    if not isinstance(value, tuple) or len(value) != 3:
        return False
    first, listed, second = value
    if not is_index(first, size) or not is_index(second, size) or first == second:
        return False
    return isinstance(listed, tuple) and len(listed) > 0 and listed == common(RELATIONS, listed)


def check_problem(problem):
    """Raise BadValue unless the problem is one."""
    require(is_problem(problem), "problem")


def check_pair(problem, first, second):
    """Raise BadValue unless the first and the second one are two different tasks of the problem."""
    check_problem(problem)
    require(is_index(first, problem[0]), "first")
    require(is_index(second, problem[0]) and second != first, "second")


def check_chosen(problem, chosen, least):
    """Raise BadValue unless the chosen ones are a set of at least so many tasks of the problem."""
    check_problem(problem)
    require(is_set(chosen, problem[0]) and len(chosen) >= least, "chosen")


# The functions below are given what has been checked; a problem may have more than 20 rules there.


def choices_of(problem):
    """Return rows with the allowed relations of each task to each other one."""
    size, rules = problem
    choices = [[RELATIONS] * size for _ in range(size)]
    for first, listed, second in rules:
        choices[first][second] = common(choices[first][second], listed)
        choices[second][first] = opposites_of(choices[first][second])
    return choices


def common(words, others):
    """Return the tuple of the words that are among the others, too."""
    return tuple([word for word in words if word in others])


def opposites_of(words):
    """Return the tuple of the opposites of the relations, in order."""
    return tuple([word for word in RELATIONS if OPPOSITES[word] in words])


def is_kept(rule, plan):
    """Tell whether the plan keeps the rule."""
    first, listed, second = rule
    return relation_in(plan, first, second) in listed


def with_rule(problem, rule):
    """Return the problem with the rule besides, as its last one."""
    size, rules = problem
    return (size, rules + (rule,))
