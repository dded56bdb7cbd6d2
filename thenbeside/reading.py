"""Reading plans and problems from texts."""

from thenbeside.basics import RELATIONS, is_size, require
from thenbeside.errors import TextError
from thenbeside.grammar import coming_behind
from thenbeside.plans import joined
from thenbeside.rules import MOST_RULES, common
from thenbeside.scanning import TASKS, check_text, scan

KINDS = ("plan", "problem")


def next_tokens(text, kind):
    """Return the list of what can come behind the tokens of the text, which is the beginning of one of this kind."""
    check_text(text)
    require(kind in KINDS, "kind")
    return coming_behind(scan(text)[:-1], kind)


def read_plan(text):
    """Return the plan of the text."""
    tokens = followed(text, "plan")
    check_tasks(tokens)
    return plan_from(tokens)


def read_problem(text):
    """Return the problem of the text."""
    tokens = followed(text, "problem")
    size = int(tokens[0][1])
    refuse_if(not is_size(size), tokens[0], "a size is from 1 to 7")
    rules = []
    for row in rows_of_rules(tokens):
        refuse_if(len(rules) == MOST_RULES, row[0], "there are at most 20 rules")
        rules.append(rule_from(row, size))
    return (size, tuple(rules))


def followed(text, kind):
    """Return the list of the tokens of the text; raise TextError if they do not follow the grammar of this kind."""
    tokens = scan(text)
    coming_behind(tokens, kind)
    return tokens


def refuse_if(holds, token, words):
    """Raise TextError with the words at the token if the problem that they tell is there."""
    if holds:
        raise TextError(token[2], words)


# The functions below are given tokens that follow the grammar, the last one being the end.


def check_tasks(tokens):
    """Raise TextError if a task stands twice, or if one is missing that comes ahead of another one."""
    found = []
    for token in tokens:
        if token[0] == "task":
            refuse_if(token[1] in found, token, "this task stands already")
            found.append(token[1])
    refuse_if(sorted(found) != list(TASKS[:len(found)]), tokens[-1], "a task is missing")


def plan_from(tokens):
    """Return the plan of the tokens, in which each task of the plan stands once."""
    # The word and the list of the pieces of each row that is not closed, the outermost one first.
    rows = [["", []]]
    for kind, characters, _ in tokens:
        if kind == "task":
            rows[-1][1].append(TASKS.index(characters))
        elif kind == "word":
            rows[-1][0] = characters
        elif characters == "(":
            rows.append(["", []])
        elif characters == ")":
            word, pieces = rows.pop()
            rows[-1][1].append(joined(word, pieces))
    word, pieces = rows[0]
    return joined(word, pieces)


def rows_of_rules(tokens):
    """Return the list of the rules in the text of a problem, each a list of its tokens."""
    rows = []
    row = []
    # The size and the sign behind it stand ahead of the rules.
    for token in tokens[2:]:
        if token[1] != "," and token[0] != "end":
            row.append(token)
        elif row:
            rows.append(row)
            row = []
    return rows


def rule_from(row, size):
    """Return the rule of the tokens, of so many tasks; raise TextError if it is none."""
    first = task_from(row[0], size)
    found = []
    for token in row[1:-1]:
        refuse_if(token[1] in found, token, "this relation stands already")
        if token[0] == "word":
            found.append(token[1])
    second = task_from(row[-1], size)
    refuse_if(second == first, row[-1], "a rule has two different tasks")
    return (first, common(RELATIONS, found), second)


def task_from(token, size):
    """Return the task of the token; raise TextError if it is not one of so many."""
    task = TASKS.index(token[1])
    refuse_if(task >= size, token, "there is no such task")
    return task
