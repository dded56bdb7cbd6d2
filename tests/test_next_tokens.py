"""Points 107, 108 and 114: what can come at a place of a text."""

import unittest
from itertools import product
from random import Random

from thenbeside.reading import next_tokens, read_plan, read_problem
from tests.test_scanning import NOT_TEXTS
from tests.texts import (NAMES, Place, characters_of, check_first_problem, check_text_error, expected,
                         first_problem, name_of, problem_of_grammar, spaced, still_open, tokens_of)
from tests.wrong import NOT_INTEGERS, WrongCase, deep

READERS = {"plan": read_plan, "problem": read_problem}
NOT_KINDS = (*NOT_INTEGERS, "Plan", "PROBLEM", "plan ", "plans", "task", "plan problem", ("plan",), ["plan"], b"plan",
             ("plan", "problem"), "row", "pla", deep(5000))


class NextTokensTest(unittest.TestCase):
    def test_examples(self):
        self.assertEqual(next_tokens("a", "plan"), ["then", "beside", "the end"])
        self.assertEqual(next_tokens("a then b", "plan"), ["then", "the end"])
        self.assertEqual(next_tokens("3: a", "problem"), ["beside", "before", "after"])

    def test_places_of_plans(self):
        for text, names in (("", ["a task", '"("']), ("(", ["a task", '"("']), ("a", ["then", "beside", "the end"]),
                            ("a then", ["a task", '"("']), ("a beside b", ["beside", "the end"]),
                            ("(a", ["then", "beside", '")"']), ("(a then b", ["then", '")"']),
                            ("(a beside b", ["beside", '")"']), ("(a beside b)", ["then", "beside", "the end"]),
                            ("a then (b", ["then", "beside", '")"']), ("a then (b)", ["then", "the end"]),
                            ("a then (b beside (c))", ["then", "the end"]),
                            ("((a beside b)", ["then", "beside", '")"']),
                            ("((a beside b) then c", ["then", '")"'])):
            for blanks in range(3):
                self.assertEqual(next_tokens(text + " " * blanks, "plan"), names)

    def test_places_of_problems(self):
        behind = ["a task", '"|"']
        for text, names in (("", ["a number"]), ("3", ['":"']), ("3:", ["a task", "the end"]),
                            ("3: a", ["beside", "before", "after"]), ("3: a before", behind), ("3: a after", behind),
                            ("3: a beside|", ["beside", "before", "after"]), ("3: a beside|before", behind),
                            ("3: a before b", ['","', "the end"]), ("3: a before b,", ["a task"]),
                            ("3: a before b, c", ["beside", "before", "after"]),
                            ("3: a before b, c after a", ['","', "the end"])):
            for blanks in range(3):
                self.assertEqual(next_tokens(text + " " * blanks, "problem"), names)

    def test_what_is_wrong_but_for_the_grammar(self):
        # Only the tokens and the grammar matter: sizes, tasks and relations are not looked at.
        for text, kind in (("a then a", "plan"), ("g", "plan"), ("b beside (c beside c)", "plan"), ("0:", "problem"),
                           ("999999: g before g", "problem"), ("1: a before|before", "problem"),
                           ("7: " + "a before b, " * 24 + "a", "problem")):
            self.assertTrue(next_tokens(text, kind))

    def test_nested_too_deep(self):
        for many in range(1, 7):
            self.assertEqual(next_tokens("(" * many, "plan"), ["a task", '"("'])
            self.assertEqual(next_tokens("(" * many + "a", "plan"), ["then", "beside", '")"'])
        check_text_error(self, 7, "nested too deep", next_tokens, "(" * 7, "plan")

    def check_place(self, pieces, place, kind, source):
        """Check what can come behind the pieces, and that nothing else can."""
        coming = place.coming()
        text = spaced(pieces, source)
        self.assertEqual(next_tokens(text, kind), coming)
        for name in NAMES:
            if name not in coming:
                if name == "the end":
                    check_text_error(self, len(text) + 1, expected(coming), READERS[kind], text)
                else:
                    ahead = spaced(pieces, source) + " "
                    more = ahead + characters_of(name, source)
                    # Problems of tokens come before all others.
                    deep_one = name == '"("' and still_open(pieces) == 6
                    words = "nested too deep" if deep_one else expected(coming)
                    check_text_error(self, len(ahead) + 1, words, next_tokens, more, kind)
                    check_text_error(self, len(ahead) + 1, words, READERS[kind], more + " a then")

    def walk(self, kind, source):
        """Walk through the grammar and check each place on the way; return what came."""
        place = Place(kind)
        names, pieces = [], []
        while len(names) < 20:
            self.check_place(pieces, place, kind, source)
            barred = ("the end", '"("') if still_open(pieces) == 6 else ("the end",)
            choice = [name for name in place.coming() if name not in barred]
            # Parentheses are closed soon in some walks, and late in others.
            if '")"' in choice and source.randrange(2):
                choice = ['")"']
            if not choice:
                break
            names.append(source.choice(choice))
            pieces.append(characters_of(names[-1], source))
            place.step(names[-1])
        self.check_place(pieces, place, kind, source)
        return names

    def test_walks(self):
        for kind in READERS:
            met = set()
            for seed in range(60):
                met.update(self.walk(kind, Random(seed)))
            self.assertEqual(met, {"a task", "then", "beside", '"("', '")"'} if kind == "plan" else
                             {"a task", "a number", "before", "beside", "after", '"|"', '","', '":"'})

    def test_all_short_texts(self):
        source = Random(2)
        for kind, reader in READERS.items():
            for many in range(5):
                for names in product(NAMES[:-1], repeat=many):
                    if many == 4 and names[0] not in Place(kind).coming():
                        continue
                    text = spaced([characters_of(name, source) for name in names], source, 1)
                    tokens = tokens_of(text)
                    problem = problem_of_grammar(tokens[:-1], kind)
                    if problem is None:
                        place = Place(kind)
                        for token in tokens[:-1]:
                            place.step(name_of(token))
                        self.assertEqual(next_tokens(text, kind), place.coming())
                    else:
                        check_text_error(self, *problem, next_tokens, text, kind)
                    check_first_problem(self, first_problem(text, kind), reader, text)

    def test_changing_a_returned_list_changes_nothing(self):
        for text, kind in (("", "plan"), ("a", "plan"), ("(a then b", "plan"), ("", "problem"), ("3:", "problem"),
                           ("3: a", "problem"), ("3: a after", "problem")):
            first = next_tokens(text, kind)
            self.assertIsInstance(first, list)
            kept = list(first)
            first[0] = "x"
            first.append("y")
            self.assertEqual(next_tokens(text, kind), kept)
            first.clear()
            self.assertEqual(next_tokens(text, kind), kept)


class NextTokensErrorsTest(WrongCase):
    def test_text_and_kind(self):
        self.check_arguments(next_tokens, ("text", "a", NOT_TEXTS), ("kind", "plan", NOT_KINDS))
        self.check_arguments(next_tokens, ("text", "3: a", NOT_TEXTS), ("kind", "problem", NOT_KINDS))

    def test_wrong_kind_comes_ahead_of_problems_of_the_text(self):
        for text in ("$", "zz", "1234567", "(((((((", "then", ")", "3:"):
            for kind in NOT_KINDS:
                self.check_bad("kind", next_tokens, text, kind)


if __name__ == "__main__":
    unittest.main()
