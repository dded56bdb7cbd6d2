"""What the judges of the document accept, told without the program; any value can be asked about."""

from functools import cache

from tests.problems import by_indexes, choices, is_kept_by, others, stuck_sets, with_rule
from tests.samples import relations_of, tasks_of

WORDS_OF_PLANS = ("then", "beside")


def is_row(value, many=None):
    """Whether the value is a tuple, of so many items if this is told."""
    return type(value) is tuple and many in (None, len(value))


def is_number(value, least=0, most=10 ** 9):
    """Whether the value is an integer from the least to the greatest one."""
    return type(value) is int and least <= value <= most


def is_chosen(value, size):
    """Whether the value is an ascending tuple of different tasks; it may be empty."""
    if not is_row(value) or not all(is_number(task, 0, size - 1) for task in value):
        return False
    return all(early < late for early, late in zip(value, value[1:]))


def has_form(value, outer=""):
    """Whether the value has the form of a plan within a part with this word."""
    if type(value) is int:
        return True
    if not is_row(value, 2) or value[0] not in WORDS_OF_PLANS or value[0] == outer or not is_row(value[1]):
        return False
    return 2 <= len(value[1]) <= 7 and all(has_form(piece, value[0]) for piece in value[1])


def is_plan_for(value, size):
    """Whether the value is a plan for the size."""
    return has_form(value) and sorted(tasks_of(value)) == list(range(size))


def is_rule_of(value, size):
    """Whether the value is a rule of so many tasks."""
    if not is_row(value, 3) or not is_row(value[1]):
        return False
    first, words, second = value
    if not is_number(first, 0, size - 1) or not is_number(second, 0, size - 1) or first == second:
        return False
    return words != () and words == tuple(word for word in ("before", "beside", "after") if word in words)


@cache
def stuck_of(problem):
    """The set of the stuck sets of the problem."""
    return frozenset(stuck_sets(problem))


def is_stuck_set(problem, value):
    """Whether the value is a stuck set of the problem."""
    return is_chosen(value, problem[0]) and value in stuck_of(problem)


def is_solution(problem, value):
    """Whether the value is a plan that keeps the problem."""
    return is_plan_for(value, problem[0]) and is_kept_by(problem, relations_of(value))


def is_right_answer(problem, value):
    """Whether the value is an accepted answer."""
    if not is_row(value, 2):
        return False
    if value[0] == "plan":
        return is_solution(problem, value[1])
    return value[0] == "set" and is_stuck_set(problem, value[1])


def is_right_split(problem, chosen, value):
    """Whether the value is a split of the set."""
    if not is_row(value, 3) or value[0] not in WORDS_OF_PLANS:
        return False
    word, part, rest = value
    if not is_chosen(part, problem[0]) or not is_chosen(rest, problem[0]) or () in (part, rest):
        return False
    needed = "before" if word == "then" else "beside"
    found = choices(problem)
    return sorted(part + rest) == list(chosen) and all(needed in found[x, y] for x in part for y in rest)


def are_right_grounds(problem, chosen, value):
    """Whether the value is grounds that the set is stuck."""
    if not is_row(value, 3) or not all(is_row(pairs, len(chosen) - 1) for pairs in value):
        return False
    found = choices(problem)
    for which, pairs in enumerate(value):
        met = {chosen[0]}
        for pair in pairs:
            if not is_row(pair, 2) or not all(is_number(task, 0, problem[0] - 1) for task in pair):
                return False
            known, new = pair[::-1] if which == 2 else pair
            if known not in met or new in met or new not in chosen:
                return False
            if ("beside" if which == 0 else "before") in found[pair]:
                return False
            met.add(new)
    return len(chosen) > 1


def is_right_evidence(problem, question, value):
    """Whether the value is evidence for the question, which is a tuple of a task, a relation and a task."""
    first, word, second = question
    affirmed = with_rule(problem, first, (word,), second)
    denied = with_rule(problem, first, others((word,)), second)
    if is_row(value, 3) and value[0] == "sometimes":
        return is_solution(affirmed, value[1]) and is_solution(denied, value[2])
    if is_row(value, 2) and value[0] in ("always", "never"):
        return is_stuck_set(denied if value[0] == "always" else affirmed, value[1])
    return False


def are_right_for_dropping(problem, collection, index, value):
    """Whether the value is grounds for dropping the rule with the index from the collection."""
    first, words, second = problem[1][index]
    rest = by_indexes(problem, [other for other in collection if other != index])
    left = others(words)
    if not is_row(value, len(left)):
        return False
    return all(is_stuck_set(with_rule(rest, first, (word,), second), chosen) for word, chosen in zip(left, value))


def are_right_for_conflict(problem, collection, value):
    """Whether the value is grounds for the collection to be a conflict."""
    if not is_row(value, 2) or not is_row(value[1], len(collection)):
        return False
    if not is_stuck_set(by_indexes(problem, collection), value[0]):
        return False
    return all(is_solution(by_indexes(problem, [other for other in collection if other != index]), plan)
               for index, plan in zip(collection, value[1]))


def are_right_for_removal(problem, collection, value):
    """Whether the value is grounds for the collection to be a removal."""
    if not is_row(value, 2) or not is_row(value[1], len(collection)):
        return False
    rest = [index for index in range(len(problem[1])) if index not in collection]
    if not is_solution(by_indexes(problem, rest), value[0]):
        return False
    return all(is_stuck_set(by_indexes(problem, sorted([*rest, index])), chosen)
               for index, chosen in zip(collection, value[1]))


def is_right_chain(plan, value):
    """Whether the value is a chain of the plan."""
    size = len(tasks_of(plan))
    if not is_row(value) or value == () or not all(is_number(task, 0, size - 1) for task in value):
        return False
    told = relations_of(plan)
    return all(early != late and told[early, late] == "before" for early, late in zip(value, value[1:]))


def is_right_length(plan, durations, number, value):
    """Whether the value is accepted grounds for the number to be the length."""
    size = len(durations)
    if not is_row(value, 2) or not is_row(value[0], size) or not all(is_number(time) for time in value[0]):
        return False
    times, chain = value
    for (x, y), word in relations_of(plan).items():
        if word == "before" and times[y] < times[x] + durations[x]:
            return False
    if any(times[task] + durations[task] > number for task in range(size)) or not is_right_chain(plan, chain):
        return False
    return sum(durations[task] for task in chain) == number


def is_right_width(plan, value):
    """Whether the value is accepted grounds for the width."""
    size = len(tasks_of(plan))
    if not is_row(value, 2) or not is_chosen(value[0], size) or not is_row(value[1], len(value[0])):
        return False
    told = relations_of(plan)
    if any(told[x, y] != "beside" for x in value[0] for y in value[0] if x != y):
        return False
    if not all(is_right_chain(plan, chain) for chain in value[1]):
        return False
    return sorted(task for chain in value[1] for task in chain) == list(range(size))


def is_right_flaw(table, value):
    """Whether the value is a flaw of the table."""
    if not is_row(value) or len(value) not in (4, 5) or len(set(map(repr, value[1:]))) < len(value) - 1:
        return False
    if not all(is_number(task, 0, len(table) - 1) for task in value[1:]):
        return False
    if len(value) == 4:
        _, a, b, c = value
        return value[0] == "gap" and table[a][b] == table[b][c] == "before" and table[a][c] != "before"
    _, a, b, c, d = value
    return (value[0] == "N" and table[a][c] == table[b][c] == table[b][d] == "before"
            and table[a][b] == table[c][d] == table[a][d] == "beside")


def is_command_of(value, size):
    """Whether the value is a command about rules of so many tasks."""
    if is_row(value, 2) and value[0] == "add":
        return is_rule_of(value[1], size)
    if is_row(value, 2) and value[0] == "drop":
        return is_number(value[1], 0, 19)
    return is_row(value, 3) and value[0] == "put" and is_number(value[1], 0, 19) and is_rule_of(value[2], size)


def why_not(rules, command):
    """Why the command is not possible with these rules, a list: the word of the document; None if it is possible."""
    if command[0] == "add":
        return "many" if len(rules) >= 20 else None
    return None if command[1] < len(rules) else "missing"


def after_command(rules, command):
    """The list of the rules behind a command that is possible."""
    changed = list(rules)
    if command[0] == "add":
        changed.append(command[1])
    elif command[0] == "drop":
        del changed[command[1]]
    else:
        changed[command[1]] = command[2]
    return changed


def are_right_records(size, value):
    """Whether the value is right records for so many tasks."""
    if not is_row(value) or len(value) > 20:
        return False
    rules = []
    for record in value:
        if not is_row(record, 2) or not is_command_of(record[0], size) or why_not(rules, record[0]) is not None:
            return False
        rules = after_command(rules, record[0])
        if not is_right_answer((size, tuple(rules)), record[1]):
            return False
    return True
