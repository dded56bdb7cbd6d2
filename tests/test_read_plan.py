"""Points 107 to 109 and 112 to 115: reading plans."""

import unittest
from random import Random

from thenbeside.plans import is_plan
from thenbeside.reading import read_plan
from tests.samples import MIXED_PLANS, PLANS_OF_FIVE, SMALL_PLANS, drawn_plan, tasks_of
from tests.test_scanning import NOT_TEXTS
from tests.texts import (LETTERS, check_first_problem, check_text_error, depth_of, drawn_texts, first_problem,
                         pieces_of_plan, plain_plan_text, spaced)
from tests.wrong import WrongCase

PLANS = (*SMALL_PLANS[::2], *PLANS_OF_FIVE[::9], *MIXED_PLANS, *(drawn_plan(seed, 5 + seed % 3) for seed in range(200)))
CAN_BEGIN = 'expected a task or "("'


class ReadPlanTest(unittest.TestCase):
    def check_problem(self, column, words, text):
        """Check that the text of a plan has this problem."""
        check_text_error(self, column, words, read_plan, text)

    def test_examples(self):
        self.assertEqual(read_plan("a then (c beside (b))"), ("then", (0, ("beside", (2, 1)))))
        self.assertEqual(read_plan("(a then b) then ((c))"), ("then", (0, 1, 2)))
        self.check_problem(11, "a task is missing", "a beside c")

    def test_one_task(self):
        for text in ("a", " a ", "(a)", "((((((a))))))", " ( ( a)) "):
            self.assertEqual(read_plan(text), 0)
        for letter in "bcdefg":
            self.check_problem(2, "a task is missing", letter)
        for letter in "hxyz":
            self.check_problem(1, "there is no such word", letter)

    def test_plain_texts(self):
        for plan in PLANS:
            self.assertEqual(read_plan(plain_plan_text(plan)), plan)

    def test_needless_parentheses_and_blanks(self):
        source = Random(3)
        deepest = 0
        for plan in (*PLANS, *MIXED_PLANS * 8):
            pieces = pieces_of_plan(plan, source)
            if depth_of(pieces) > 6:
                pieces = pieces_of_plan(plan)
            deepest = max(deepest, depth_of(pieces))
            found = read_plan(spaced(pieces, source))
            self.assertEqual(found, plan)
            self.assertIs(is_plan(found, len(tasks_of(plan))), True)
        self.assertEqual(deepest, 6)

    def test_rows_with_the_same_word(self):
        for text in ("(a then b) then c then d", "a then (b then c) then d", "a then (b then (c then d))",
                     "((a then b) then c) then d", "(a then (b then c)) then d", "(a then b) then (c then d)",
                     "(a then b then c then d)", "((a) then ((b) then (c))) then (d)"):
            self.assertEqual(read_plan(text), ("then", (0, 1, 2, 3)))
            self.assertEqual(read_plan(text.replace("then", "beside")), ("beside", (0, 1, 2, 3)))

    def test_not_normal(self):
        self.assertEqual(read_plan("c beside b beside a"), ("beside", (2, 1, 0)))
        self.assertEqual(read_plan("(c then b) beside a"), ("beside", (("then", (2, 1)), 0)))

    def test_deep_parentheses(self):
        for many in range(7):
            self.assertEqual(read_plan("(" * many + "a then b" + ")" * many), ("then", (0, 1)))
        self.check_problem(7, "nested too deep", "(" * 7 + "a then b" + ")" * 7)
        plan = ("then", (0, ("beside", (1, ("then", (2, ("beside", (3, ("then", (4, ("beside", (5, 6))))))))))))
        self.assertEqual(read_plan("a then (b beside (c then (d beside (e then (f beside (g))))))"), plan)

    def test_parentheses_that_are_not_closed_or_opened(self):
        self.check_problem(3, 'expected then, beside or ")"', "(a")
        self.check_problem(2, "expected then, beside or the end", "a)")
        self.check_problem(1, CAN_BEGIN, ")")
        self.check_problem(2, CAN_BEGIN, "()")
        self.check_problem(10, 'expected then or ")"', "(a then b")
        self.check_problem(11, 'expected then or ")"', "(a then b beside c)")

    def test_task_stands_already(self):
        for text, column in (("a then a", 8), ("(a then b) beside (c then b)", 27), ("b then b then c", 8),
                             ("a then b then c then a then b", 22), ("g then g", 8), ("(a) beside ((a) then a)", 14)):
            self.check_problem(column, "this task stands already", text)

    def test_task_is_missing(self):
        for text in ("b", "a then c", "b beside c", "a beside c beside d  ", "a then b then c then d then e then g",
                     "(g)", "b then c then d then e then f then g"):
            self.check_problem(len(text) + 1, "a task is missing", text)

    def test_one_task_changed(self):
        for plan in (*MIXED_PLANS[1:], *PLANS_OF_FIVE[::300]):
            pieces = pieces_of_plan(plan)
            standing = [at for at, piece in enumerate(pieces) if piece in LETTERS]
            for at in (standing[0], standing[len(standing) // 2], standing[-1]):
                for letter in LETTERS:
                    text = " ".join([*pieces[:at], letter, *pieces[at + 1:]])
                    problem = first_problem(text, "plan")
                    self.assertIs(problem is None, letter == pieces[at])
                    check_first_problem(self, problem, read_plan, text)

    def test_several_problems(self):
        # Problems of tokens come before all others, then those of the grammar, and then the others.
        self.check_problem(29, "no token begins here", "a then a then c beside then ?")
        self.check_problem(17, "expected then or the end", "a then a then c beside then")
        self.check_problem(8, "this task stands already", "a then a then c then c")
        self.check_problem(8, "this task stands already", "c then c")
        self.check_problem(1, CAN_BEGIN, "then a then a ")
        self.check_problem(1, CAN_BEGIN, "")
        self.check_problem(4, CAN_BEGIN, "   ")
        self.check_problem(17, "nested too deep", "then b ((   (((((")
        self.check_problem(8, "a number has at most 6 digits", "then b 1234567 zz")

    def test_drawn_texts(self):
        for text in drawn_texts(1500):
            check_first_problem(self, first_problem(text, "plan"), read_plan, text)

    def test_600_characters(self):
        text = "a then b" + " " * 592
        self.assertEqual((len(text), read_plan(text)), (600, ("then", (0, 1))))
        self.check_problem(601, "a task is missing", "a then c" + " " * 592)


class ReadPlanErrorsTest(WrongCase):
    def test_text(self):
        self.check_arguments(read_plan, ("text", "a then b", NOT_TEXTS))


if __name__ == "__main__":
    unittest.main()
