"""Texts to test with, and their tokens and grammars, told without the program."""

import re
from random import Random

from thenbeside.errors import TextError

LETTERS = "abcdefg"
RELATIONS = ("before", "beside", "after")
# What can come at a place, in the order in which it is told.
NAMES = ("a task", "a number", "then", "beside", "before", "after", '"("', '")"', '"|"', '","', '":"', "the end")

# The grammars of the document: what each name can be replaced by. What stands any number of times has a name.
GRAMMAR = {
    "PLAN": (("ROW", "the end"),),
    "ROW": (("ITEM",), ("ITEM", "then", "ITEM", "THENS"), ("ITEM", "beside", "ITEM", "BESIDES")),
    "THENS": ((), ("then", "ITEM", "THENS")),
    "BESIDES": ((), ("beside", "ITEM", "BESIDES")),
    "ITEM": (("a task",), ('"("', "ROW", '")"')),
    "PROBLEM": (("a number", '":"', "the end"), ("a number", '":"', "RULE", "RULES", "the end")),
    "RULES": ((), ('","', "RULE", "RULES")),
    "RULE": (("a task", "RELATION", "MORE", "a task"),),
    "MORE": ((), ('"|"', "RELATION", "MORE")),
    "RELATION": (("before",), ("beside",), ("after",)),
}

# A regular expression for each kind of token; what none of them takes has a problem.
PATTERN = re.compile(r"(?P<blank> +)|(?P<letters>[a-z]+)|(?P<number>[0-9]+)|(?P<sign>[()|,:])|(?P<other>.)", re.DOTALL)


def tokens_of(text):
    """The tokens of a text, or the pair (column, words) of its first problem."""
    found = []
    depth = 0
    for match in PATTERN.finditer(text):
        kind, characters, column = match.lastgroup, match.group(), match.start() + 1
        if kind == "other":
            return (column, "no token begins here")
        if kind == "number" and len(characters) > 6:
            return (column, "a number has at most 6 digits")
        if kind == "letters":
            kind = "task" if re.fullmatch("[a-g]", characters) else "word"
            if kind == "word" and characters not in ("then", *RELATIONS):
                return (column, "there is no such word")
        if characters == "(":
            if depth >= 6:
                return (column, "nested too deep")
            depth += 1
        if characters == ")" and depth > 0:
            depth -= 1
        if kind != "blank":
            found.append((kind, characters, column))
    return [*found, ("end", "", len(text) + 1)]


def name_of(token):
    """What tells that the token can come."""
    kind, characters, _ = token
    return {"task": "a task", "number": "a number", "end": "the end"}.get(
        kind, f'"{characters}"' if kind == "sign" else characters)


def opened(rows):
    """The rows of what can follow, a set of tuples, with what each one begins with being no name of the grammar."""
    found = set()
    waiting = list(rows)
    while waiting:
        row = waiting.pop()
        if row and row[0] in GRAMMAR:
            waiting.extend((*first, *row[1:]) for first in GRAMMAR[row[0]])
        else:
            found.add(row)
    return found


class Place:
    """A place in a text of a grammar, told by all rows of what can follow."""

    def __init__(self, kind):
        self.rows = opened([(kind.upper(),)])

    def coming(self):
        """The list of what can come, in order."""
        return [name for name in NAMES if any(row[:1] == (name,) for row in self.rows)]

    def step(self, name):
        """Go behind what the name tells."""
        self.rows = opened([row[1:] for row in self.rows if row[0] == name])


def expected(names):
    """The words for a token that is none of these."""
    return "expected " + " or ".join(part for part in (", ".join(names[:-1]), names[-1]) if part)


def problem_of_grammar(tokens, kind):
    """The pair (column, words) for the first token that cannot come, or None; the tokens are those of a text."""
    place = Place(kind)
    for token in tokens:
        coming = place.coming()
        if name_of(token) not in coming:
            return (token[2], expected(coming))
        place.step(name_of(token))
    return None


def characters_of(name, source):
    """Characters of a token with this name; those of tasks and numbers are drawn."""
    if name == "a task":
        return source.choice(LETTERS)
    if name == "a number":
        return source.choice(("0", "1", "3", "7", "8", "12", "007", "000000", "999999"))
    return name.strip('"')


def spaced(pieces, source, most=2):
    """The pieces, characters of tokens, as a text: with drawn blanks at every place, and with those that are needed."""
    text = " " * source.randrange(most + 1)
    for piece in pieces:
        touching = text[-1:].isalpha() and piece[:1].isalpha() or text[-1:].isdigit() and piece[:1].isdigit()
        text += " " * (1 if touching else 0) + piece + " " * source.randrange(most + 1)
    return text


def pieces_of_plan(plan, source=None):
    """The characters of the tokens of a plan's text; with a source, some needless parentheses are put around parts."""
    if isinstance(plan, int):
        pieces = [LETTERS[plan]]
    else:
        pieces = []
        for at, part in enumerate(plan[1]):
            told = pieces_of_plan(part, source)
            pieces += ([plan[0]] if at else []) + (told if isinstance(part, int) else ["(", *told, ")"])
        if source and len(plan[1]) > 2 and source.randrange(2):
            pieces = grouped(plan, source)
    # As each level can have a pair more, the depth of what results is within the six that are allowed for most plans.
    if source and depth_of(pieces) < 3 and source.randrange(3) == 0:
        pieces = ["(", *pieces, ")"]
    return pieces


def grouped(plan, source):
    """The characters of the tokens of a plan whose first two or more parts, not all, stand in a row of their own."""
    word, parts = plan
    many = source.randrange(2, len(parts))
    pieces = ["(", *pieces_of_plan((word, parts[:many])), ")"]
    for part in parts[many:]:
        told = pieces_of_plan(part)
        pieces += [word, *(told if isinstance(part, int) else ["(", *told, ")"])]
    return pieces


def still_open(pieces):
    """How many parentheses are open behind the pieces, which close none that is not open."""
    return pieces.count("(") - pieces.count(")")


def depth_of(pieces):
    """How many parentheses stand within one another at most."""
    return max(still_open(pieces[:many]) for many in range(len(pieces) + 1))


def plain_plan_text(plan):
    """The text of a plan, as the document writes it."""
    if isinstance(plan, int):
        return LETTERS[plan]
    return f" {plan[0]} ".join(plain_plan_text(part) if isinstance(part, int) else f"({plain_plan_text(part)})"
                               for part in plan[1])


def plain_rule_text(rule):
    """The text of a rule, as the document writes it."""
    return LETTERS[rule[0]] + " " + "|".join(rule[1]) + " " + LETTERS[rule[2]]


def plain_problem_text(problem):
    """The text of a problem, as the document writes it."""
    size, rules = problem
    return f"{size}:" + (" " + ", ".join(plain_rule_text(rule) for rule in rules) if rules else "")


def pieces_of_problem(problem, source):
    """The characters of the tokens of a problem's text, with relations in a drawn sequence and needless zeros."""
    size, rules = problem
    pieces = ["0" * source.randrange(6) + str(size), ":"]
    for at, (first, words, second) in enumerate(rules):
        drawn = source.sample(words, len(words))
        told = [piece for word in drawn for piece in ("|", word)][1:]
        pieces += ([","] if at else []) + [LETTERS[first], *told, LETTERS[second]]
    return pieces


def missed_in_plan(tokens):
    """The pair (column, words) for the first problem of tokens that follow the grammar of plans, or None."""
    found = []
    for kind, characters, column in tokens:
        if kind == "task":
            if characters in found:
                return (column, "this task stands already")
            found.append(characters)
    return None if set(found) == set(LETTERS[:len(found)]) else (tokens[-1][2], "a task is missing")


def missed_in_problem(tokens):
    """The pair (column, words) for the first problem of tokens that follow the grammar of problems, or None."""
    size = int(tokens[0][1])
    if size not in range(1, 8):
        return (tokens[0][2], "a size is from 1 to 7")
    rules, rule = 0, []
    for kind, characters, column in tokens[2:-1]:
        if not rule and rules == 20:
            return (column, "there are at most 20 rules")
        if kind == "task" and LETTERS.index(characters) >= size:
            return (column, "there is no such task")
        if kind == "word" and characters in rule:
            return (column, "this relation stands already")
        if kind == "task" and characters in rule:
            return (column, "a rule has two different tasks")
        rule = [] if characters == "," else [*rule, characters]
        rules += characters == ","
    return None


MISSED = {"plan": missed_in_plan, "problem": missed_in_problem}


def first_problem(text, kind):
    """The pair (column, words) for the first problem of the text of this kind, or None."""
    tokens = tokens_of(text)
    if isinstance(tokens, tuple):
        return tokens
    return problem_of_grammar(tokens, kind) or MISSED[kind](tokens)


def drawn_texts(many):
    """Texts of up to twenty tokens of every kind, some of them with problems, with drawn blanks; always the same."""
    source = Random(1)
    good = ("a", "b", "g", "then", "beside", "before", "after", "0", "7", "42", "000000", "123456", "(", ")", "|", ",",
            ":")
    bad = ("h", "ab", "thenb", "befor", "z", "thenthen", "1234567", "0000000", "A", "-", ".", "\t", "$", "_")
    for _ in range(many):
        pieces = [source.choice(good) for _ in range(source.randrange(21))]
        for _ in range(source.choice((0, 0, 1, 2))):
            pieces.insert(source.randrange(len(pieces) + 1), source.choice(bad))
        yield spaced(pieces, source, source.randrange(4))


def check_text_error(case, column, words, function, *arguments):
    """Check that the call raises TextError with this column and these words."""
    with case.assertRaises(TextError) as caught:
        function(*arguments)
    case.assertEqual((caught.exception.column, caught.exception.words), (column, words))


def check_first_problem(case, problem, function, text):
    """Check that the call raises TextError with the pair, or returns something if there is none."""
    if problem is None:
        function(text)
    else:
        check_text_error(case, *problem, function, text)
