"""Points 107, 108, 110 and 112 to 115: reading problems."""

import unittest
from random import Random

from thenbeside.reading import read_problem
from thenbeside.rules import is_problem
from tests.problems import BEFORE, HAND_MADE, LARGE, OF_FOUR, WORDS, drawn
from tests.test_scanning import NOT_TEXTS
from tests.texts import (LETTERS, check_first_problem, check_text_error, drawn_texts, first_problem,
                         pieces_of_problem, plain_problem_text, spaced)
from tests.wrong import WrongCase

PROBLEMS = (*HAND_MADE, *OF_FOUR[::6], *LARGE, *(drawn(seed, 1 + seed % 7, seed % 21) for seed in range(80)))


class ReadProblemTest(unittest.TestCase):
    def check_problem(self, column, words, text):
        """Check that the text of a problem has this problem."""
        check_text_error(self, column, words, read_problem, text)

    def test_examples(self):
        self.assertEqual(read_problem("3: a before b, c after|beside b"),
                         (3, ((0, BEFORE, 1), (2, ("beside", "after"), 1))))

    def test_sizes(self):
        for size in range(1, 8):
            for zeros in range(6):
                self.assertEqual(read_problem("0" * zeros + f"{size}:"), (size, ()))
        for text in ("0:", "8:", "9:", "10:", "17:", "000000:", "000008:", "999999:", "70:"):
            self.check_problem(1, "a size is from 1 to 7", text)
            self.check_problem(3, "a size is from 1 to 7", "  " + text + " g before g, a before|before a")
        self.check_problem(1, "a number has at most 6 digits", "0000003:")
        self.check_problem(1, "expected a number", "")
        self.check_problem(1, "expected a number", ":")
        self.check_problem(2, 'expected ":"', "3")
        self.check_problem(3, 'expected ":"', "3 4:")

    def test_plain_texts(self):
        for problem in PROBLEMS:
            self.assertEqual(read_problem(plain_problem_text(problem)), problem)

    def test_relations_zeros_and_blanks(self):
        source = Random(4)
        for problem in PROBLEMS * 2:
            text = spaced(pieces_of_problem(problem, source), source, 1)
            if len(text) <= 600:
                found = read_problem(text)
                self.assertEqual(found, problem)
                self.assertIs(is_problem(found), True)

    def test_relations_in_every_sequence(self):
        for words in (("before",), ("beside", "before"), ("after", "before"), ("after", "beside"), ("before", "after"),
                      ("after", "beside", "before"), ("beside", "after", "before"), ("before", "after", "beside")):
            expected_words = tuple(word for word in WORDS if word in words)
            self.assertEqual(read_problem(f"2:b {'|'.join(words)} a"), (2, ((1, expected_words, 0),)))

    def test_rules_stay_in_their_sequence(self):
        self.assertEqual(read_problem("2:b before a,a before b,b before a"),
                         (2, ((1, BEFORE, 0), (0, BEFORE, 1), (1, BEFORE, 0))))

    def test_twenty_rules(self):
        for many in (19, 20):
            text = "2: " + ", ".join(["a before b"] * many)
            self.assertEqual(read_problem(text), (2, ((0, BEFORE, 1),) * many))
        for rule in ("a before b", "g before a", "a before a", "a before|before b", "c after c"):
            ahead = "2: " + "a before b, " * 20
            for more in ("", ", a before c"):
                self.check_problem(len(ahead) + 1, "there are at most 20 rules", ahead + rule + more)
        self.check_problem(13, "there is no such task", ("2: a beside c, " + "a before b, " * 20).strip(", "))

    def test_no_such_task(self):
        for size in range(1, 7):
            for task in range(size, 7):
                letter = LETTERS[task]
                self.check_problem(4, "there is no such task", f"{size}: {letter} before a")
                self.check_problem(14, "there is no such task", f"{size}: a before  {letter}")
                self.check_problem(4, "there is no such task", f"{size}: {letter} before|before {letter}")
        self.check_problem(14, "a rule has two different tasks", "1: a before  a")

    def test_relation_stands_already(self):
        for first in WORDS:
            self.check_problem(6 + len(first) + 1, "this relation stands already", f"3: a {first}|{first} b")
            for second in WORDS:
                for third in WORDS:
                    text = f"3: a {first}|{second}|{third} a"
                    if len({first, second, third}) < 3:
                        column = 7 + len(first) + (len(second) + 1 if second != first else 0)
                        self.check_problem(column, "this relation stands already", text)
                    else:
                        self.check_problem(len(text), "a rule has two different tasks", text)
        self.assertEqual(read_problem("3: a before b, a before c")[1], ((0, BEFORE, 1), (0, BEFORE, 2)))

    def test_two_different_tasks(self):
        for size in range(1, 8):
            for letter in LETTERS[:size]:
                for words in ("before", "after|before", "before|beside|after"):
                    text = f"{size}: {letter} {words} {letter}"
                    self.check_problem(len(text), "a rule has two different tasks", text)

    def test_one_thing_changed_in_a_rule(self):
        source = Random(5)
        for problem in [problem for problem in PROBLEMS if 0 < len(problem[1])][::2]:
            pieces = pieces_of_problem(problem, source)
            tasks = [at for at, piece in enumerate(pieces) if piece in LETTERS]
            words = [at for at, piece in enumerate(pieces) if piece in WORDS]
            for group, others in ((tasks, LETTERS), (words, WORDS)):
                for at in (group[0], group[len(group) // 2], group[-1]):
                    for other in others:
                        text = spaced([*pieces[:at], other, *pieces[at + 1:]], source, 0)
                        check_first_problem(self, first_problem(text, "problem"), read_problem, text)

    def test_several_problems_in_one_text(self):
        # Each of the rules has a problem, and the first one is told; problems of tokens and of the grammar come first.
        wrong = (("a before c", 9, "there is no such task"), ("c before a", 0, "there is no such task"),
                 ("a after|after b", 8, "this relation stands already"),
                 ("b before b", 9, "a rule has two different tasks"))
        for rule, place, words in wrong:
            for other, _, _ in wrong:
                text = f"2: b before a, {rule}, {other}"
                self.check_problem(16 + place, words, text)
                self.check_problem(len(text) + 2, 'expected "," or the end', text + " a")
                self.check_problem(len(text) + 4, "no token begins here", text + " a *")
                self.check_problem(1, "a size is from 1 to 7", "8" + text[1:])
        self.check_problem(13, "this relation stands already", "2: a before|before c")
        self.check_problem(4, "there is no such task", "2: c before|before c")

    def test_drawn_texts(self):
        for text in drawn_texts(1500):
            check_first_problem(self, first_problem(text, "problem"), read_problem, text)
            check_first_problem(self, first_problem("3:" + text[:598], "problem"), read_problem, "3:" + text[:598])

    def test_600_characters(self):
        text = "7:" + " " * 588 + "a before g"
        self.assertEqual((len(text), read_problem(text)), (600, (7, ((0, BEFORE, 6),))))


class ReadProblemErrorsTest(WrongCase):
    def test_text(self):
        self.check_arguments(read_problem, ("text", "3: a before b", NOT_TEXTS))


if __name__ == "__main__":
    unittest.main()
