"""Sets of tasks that can be split by "then" or "beside", and those that cannot: these are stuck."""

from thenbeside.basics import is_index, is_set, require, without
from thenbeside.plans import WORDS, joined
from thenbeside.rules import check_chosen, check_pair, choices_of

# The relation that each task of the part has to each task of the rest, for each word of a split.
NEEDED = {"beside": "beside", "then": "before"}


def is_tied(problem, first, second):
    """Tell whether the two tasks may not be beside one another."""
    check_pair(problem, first, second)
    return "beside" not in choices_of(problem)[first][second]


def hinders(problem, first, second):
    """Tell whether the first task may not be before the second one."""
    check_pair(problem, first, second)
    return "before" not in choices_of(problem)[first][second]


def reached(problem, chosen, task):
    """Return the pair of the sets of what the task reaches within the chosen set, by ties and by hindrances."""
    check_chosen(problem, chosen, 1)
    require(is_index(task, problem[0]) and task in chosen, "task")
    choices = choices_of(problem)
    return (reached_in(choices, chosen, task, "beside"), reached_in(choices, chosen, task, "before"))


def is_stuck(problem, chosen):
    """Tell whether the chosen set is stuck."""
    check_chosen(problem, chosen, 1)
    return is_stuck_in(choices_of(problem), chosen)


def split_of(problem, chosen):
    """Return the told split of the chosen set, or None if there is none."""
    check_chosen(problem, chosen, 1)
    return split_in(choices_of(problem), chosen)


def accepts_split(problem, chosen, value):
    """Tell whether the judge accepts the value as a split of the chosen set."""
    check_chosen(problem, chosen, 1)
    return is_split(choices_of(problem), chosen, value)


# The functions below are given the choices of a problem (rules.choices_of), and tasks of it that have been checked.
# Ties and hindrances are told by a relation: a task leads on to those that it may not have the relation to,
# which is "beside" for ties and "before" for hindrances.


def links(choices, chosen, task, relation):
    """Return the list of the pairs (x, y), x leading on to y, by which the task reaches others within the set.

    Each other task that is reached is the y of exactly one pair, and is the x of pairs only behind this one."""
    met = [task]
    pairs = []
    at = 0
    while at < len(met):
        for other in chosen:
            if other not in met and relation not in choices[met[at]][other]:
                pairs.append((met[at], other))
                met.append(other)
        at += 1
    return pairs


def reached_in(choices, chosen, task, relation):
    """Return the set of what the task reaches within the chosen set."""
    return tuple(sorted([task] + [pair[1] for pair in links(choices, chosen, task, relation)]))


def split_in(choices, chosen):
    """Return the told split of the chosen set, or None if there is none."""
    for word in ("beside", "then"):
        # Ties lead back as well: the least task reaches all by them, or is the first one that does not.
        for task in chosen:
            part = reached_in(choices, chosen, task, NEEDED[word])
            if part != chosen:
                return (word, part, without(chosen, part))
    return None


def is_stuck_in(choices, chosen):
    """Tell whether the chosen set is stuck."""
    return len(chosen) > 1 and split_in(choices, chosen) is None


def is_split(choices, chosen, value):
    """Tell whether the value, whatever it is, is a split of the chosen set."""
    if not isinstance(value, tuple) or len(value) != 3 or value[0] not in WORDS:
        return False
    word, part, rest = value
    if not is_set(part, len(choices)) or not is_set(rest, len(choices)) or part == () or rest == ():
        return False
    return sorted(part + rest) == list(chosen) and may_be_split(choices, word, part, rest)


def may_be_split(choices, word, part, rest):
    """Tell whether each task of the part may have the relation to each task of the rest that the word needs."""
    return all(NEEDED[word] in choices[x][y] for x in part for y in rest)


def answer_in(choices, chosen):
    """Return ("plan", plan) with a normal plan of the chosen tasks, or ("set", stuck) with a stuck set of them."""
    if len(chosen) == 1:
        return ("plan", chosen[0])
    split = split_in(choices, chosen)
    if split is None:
        return ("set", chosen)
    word, part, rest = split
    plans = []
    # Splitting never goes wrong: what is stuck in a part is so whatever split is taken.
    for group in (part, rest):
        answer = answer_in(choices, group)
        if answer[0] == "set":
            return answer
        plans.append(answer[1])
    # The plan is normal: the part of a "beside" contains the least task, and is not "beside" itself.
    return ("plan", joined(word, plans))
