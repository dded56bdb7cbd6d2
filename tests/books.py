"""Commands for books to test with, and what they do, told without the program."""

from random import Random

from tests.judges import after_command, why_not
from tests.problems import AFTER, BEFORE, BESIDE, LISTS
from tests.wrong import NOT_INTEGERS, NOT_RULES, deep

RING_COMMANDS = (("add", (0, BEFORE, 1)), ("add", (1, BEFORE, 2)), ("add", (2, BEFORE, 0)))

# Not commands about rules of four tasks.
NOT_COMMANDS = (
    True, False, None, 0, 1, "", "add", "drop", "put", (), [], {}, ("add",), ("drop",), ("put",), ("undo",),
    ("undo", 0), ["add", (0, BEFORE, 1)], ["drop", 0], ["put", 0, (0, BEFORE, 1)], ("add", (0, BEFORE, 1), 0),
    ("add", 0), ("add", 0, (0, BEFORE, 1)), ("add", (0, BEFORE, 1), (0, BEFORE, 1)), ("drop", 0, (0, BEFORE, 1)),
    ("drop", 0, 0), ("drop", (0, BEFORE, 1)), ("put", 0), ("put", (0, BEFORE, 1)), ("put", (0, BEFORE, 1), 0),
    ("put", 0, 0),
    ("put", 0, (0, BEFORE, 1), ()), ("put", 0, (0, BEFORE, 1), 0), ("Add", (0, BEFORE, 1)), ("ADD", (0, BEFORE, 1)),
    ("add ", (0, BEFORE, 1)), (b"add", (0, BEFORE, 1)), (0, (0, BEFORE, 1)), (None, 0), (True, 0), (("add",), 0),
    (["drop"], 0), ("drops", 0), ("drop", (0,)), ("drop", [0]), ("set", 0, (0, BEFORE, 1)), ((0, BEFORE, 1), "add"),
    (0, BEFORE, 1), (0, "drop"), ("add", [0, BEFORE, 1]), ("put", 0, [0, BEFORE, 1]), ("put", 20, (0, BEFORE, 1)),
    ("drop", 20), ("drop", 21), ("drop", -1), ("put", -1, (0, BEFORE, 1)), ("drop", 10 ** 30), deep(5000),
    *(("add", rule) for rule in NOT_RULES), *(("put", 1, rule) for rule in NOT_RULES),
    *(("drop", number) for number in NOT_INTEGERS), *(("put", number, (0, BEFORE, 1)) for number in NOT_INTEGERS),
    ("drop", deep(5000)), ("put", deep(5000), (0, BEFORE, 1)), (deep(5000), 0), ("add",) * 100000,
)


def drawn_rule(source, size):
    """A drawn rule of so many tasks, two or more; it often allows one relation only."""
    first, second = source.sample(range(size), 2)
    return (first, source.choice((BEFORE, BEFORE, BESIDE, AFTER, *LISTS)), second)


def drawn_command(source, size, many):
    """A drawn command, possible or not, for a book with so many tasks and rules."""
    word = source.choice(("add", "add", "add", "put", "drop"))
    if size == 1:
        # There is no rule of one task.
        return ("drop", source.randrange(20))
    number = source.choice((source.randrange(many + 1), source.randrange(many + 1), source.randrange(20)))
    number = min(19, number)
    rule = drawn_rule(source, size)
    return {"add": ("add", rule), "put": ("put", number, rule), "drop": ("drop", number)}[word]


def drawn_commands(seed, size, many):
    """So many drawn commands, possible and not, for a book with so many tasks; always the same ones for each seed."""
    source = Random(seed)
    rules, found = [], []
    for _ in range(many):
        command = drawn_command(source, size, len(rules))
        found.append(command)
        if why_not(rules, command) is None:
            rules = after_command(rules, command)
    return found


def drawn_journal(seed, size, many):
    """So many drawn commands, all possible one after another."""
    source = Random(seed)
    rules, found = [], []
    while len(found) < many:
        command = drawn_command(source, size, len(rules))
        if why_not(rules, command) is None:
            rules = after_command(rules, command)
            found.append(command)
    return tuple(found)


def states_of(size, journal):
    """The list of the problems behind each number of the commands, from 0 on."""
    rules = []
    found = [(size, ())]
    for command in journal:
        rules = after_command(rules, command)
        found.append((size, tuple(rules)))
    return found
