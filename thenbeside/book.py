"""A book of rules, which are added, dropped and put in the place of others, one command after another."""

from thenbeside.basics import is_index, is_size, require
from thenbeside.errors import NotPossible, TooLarge
from thenbeside.plans import is_plan
from thenbeside.rules import MOST_RULES, is_rule
from thenbeside.solving import answer_to, is_accepted, is_answer

MOST_COMMANDS = 20


class Book:
    """A book for so many tasks, at first without rules."""

    def __init__(self, size):
        require(is_size(size), "size")
        self._size = size
        self._commands = []
        # The problem behind each number of commands, from 0 on.
        self._problems = [(size, ())]

    def act(self, command):
        """Carry out the command, and return the number of commands in the journal."""
        require(is_command(command, self._size), "command")
        rules = self.problem()[1]
        check_possible(rules, command)
        if len(self._commands) == MOST_COMMANDS:
            raise TooLarge("commands")
        self._commands.append(command)
        self._problems.append((self._size, rules_behind(rules, command)))
        return len(self._commands)

    def undo(self):
        """Undo the last command and return it, or return None if the journal is empty."""
        if len(self._commands) == 0:
            return None
        self._problems.pop()
        return self._commands.pop()

    def problem(self):
        """Return the problem of the book."""
        return self._problems[-1]

    def journal(self):
        """Return the tuple of the commands in the journal."""
        return tuple(self._commands)

    def answer(self):
        """Return the answer of the book."""
        return answer_to(self.problem())

    def accepts(self, value):
        """Tell whether the value is an answer that is accepted for the book."""
        return is_accepted(self.problem(), value)

    def records(self):
        """Return the tuple of the commands in the journal, each paired with the answer of the book behind it."""
        behind = self._problems[1:]
        return tuple([(command, answer_to(problem)) for command, problem in zip(self._commands, behind)])

    def fate(self, plan):
        """Return the ascending tuple of the numbers of commands behind which the plan is a solution."""
        require(is_plan(plan, self._size), "plan")
        return tuple([many for many, problem in enumerate(self._problems) if is_answer(problem, "plan", plan)])

    def twin(self):
        """Return another book with the same number of tasks and the same journal."""
        book = Book(self._size)
        for command in self.journal():
            book.act(command)
        return book


def is_command(value, size):
    """Tell whether the value is a command about rules of so many tasks."""
    if not isinstance(value, tuple) or len(value) not in (2, 3):
        return False
    if len(value) == 3:
        return value[0] == "put" and is_index(value[1], MOST_RULES) and is_rule(value[2], size)
    if value[0] == "drop":
        return is_index(value[1], MOST_RULES)
    return value[0] == "add" and is_rule(value[1], size)


# The functions below are given commands that have been checked, and the rules of a book.


def check_possible(rules, command):
    """Raise NotPossible if the command cannot be carried out with these rules."""
    if command[0] == "add":
        if len(rules) == MOST_RULES:
            raise NotPossible("many")
    elif command[1] >= len(rules):
        raise NotPossible("missing")


def rules_behind(rules, command):
    """Return the tuple of the rules behind the command, which can be carried out."""
    if command[0] == "add":
        return rules + (command[1],)
    # Behind the number in the command stands the rule that takes the place, or nothing.
    number = command[1]
    return rules[:number] + command[2:] + rules[number + 1:]
