"""Points 111, 112 and 114: writing plans and problems."""

import unittest

from thenbeside.reading import read_plan, read_problem
from thenbeside.writing import plan_text, problem_text
from tests.problems import BEFORE, HAND_MADE, LARGE, LISTS, OF_FIVE, OF_FOUR, WORDS, drawn
from tests.samples import MIXED_PLANS, PLANS_OF_FIVE, SMALL_PLANS, drawn_plan
from tests.texts import depth_of, plain_plan_text, plain_problem_text, spaced, tokens_of
from tests.wrong import NOT_PLANS, NOT_PROBLEMS, WrongCase

PLANS = (*SMALL_PLANS, *PLANS_OF_FIVE[::3], *MIXED_PLANS, *(drawn_plan(seed, 5 + seed % 3) for seed in range(300)))
PROBLEMS = (*HAND_MADE, *OF_FOUR, *OF_FIVE, *LARGE, *(drawn(seed, 1 + seed % 7, seed % 21) for seed in range(120)))


class PlanTextTest(unittest.TestCase):
    def test_examples(self):
        self.assertEqual(plan_text(("then", (0, ("beside", (2, 1))))), "a then (c beside b)")
        self.assertEqual(plan_text(("beside", (("then", (0, 1)), 2))), "(a then b) beside c")
        self.assertEqual(plan_text(0), "a")
        self.assertEqual(plan_text(("then", (6, 5, 4, 3, 2, 1, 0))), "g then f then e then d then c then b then a")
        self.assertEqual(plan_text(("beside", (("then", (("beside", (3, 0)), 1)), ("then", (2, 4))))),
                         "((d beside a) then b) beside (c then e)")

    def test_all(self):
        for plan in PLANS:
            self.assertEqual(plan_text(plan), plain_plan_text(plan))

    def test_read_again(self):
        for plan in PLANS:
            self.assertEqual(read_plan(plan_text(plan)), plan)

    def test_read_again_with_other_blanks(self):
        class Always:
            """A source that draws the most blanks each time."""

            def randrange(self, many):
                return many - 1
        for plan in PLANS[::4]:
            pieces = [characters for _, characters, _ in tokens_of(plan_text(plan))[:-1]]
            self.assertEqual(read_plan(spaced(pieces, Always(), 4)), plan)
            self.assertEqual(read_plan("  " + plan_text(plan).replace(" ", "   ") + " "), plan)

    def test_as_deep_as_possible(self):
        plan = ("beside", (0, ("then", (1, ("beside", (2, ("then", (3, ("beside", (4, ("then", (5, 6))))))))))))
        text = plan_text(plan)
        self.assertEqual(text, "a beside (b then (c beside (d then (e beside (f then g)))))")
        self.assertEqual((depth_of(text), read_plan(text)), (5, plan))


class ProblemTextTest(unittest.TestCase):
    def test_examples(self):
        self.assertEqual(problem_text((3, ((0, BEFORE, 1), (2, ("beside", "after"), 1)))),
                         "3: a before b, c beside|after b")
        for size in range(1, 8):
            self.assertEqual(problem_text((size, ())), f"{size}:")
        self.assertEqual(problem_text((7, ((6, WORDS, 0),))), "7: g before|beside|after a")

    def test_all(self):
        for problem in PROBLEMS:
            self.assertEqual(problem_text(problem), plain_problem_text(problem))

    def test_read_again(self):
        for problem in PROBLEMS:
            self.assertEqual(read_problem(problem_text(problem)), problem)

    def test_each_rule(self):
        for size in (2, 7):
            for words in LISTS:
                for first, second in ((0, 1), (1, 0), (size - 1, 0)):
                    text = problem_text((size, ((first, words, second),)))
                    self.assertEqual(text, f"{size}: {'abcdefg'[first]} {'|'.join(words)} {'abcdefg'[second]}")
                    self.assertEqual(read_problem(text), (size, ((first, words, second),)))

    def test_longest_text(self):
        problem = (7, ((5, WORDS, 6),) * 20)
        text = problem_text(problem)
        self.assertEqual(text, "7: " + ", ".join(["f before|beside|after g"] * 20))
        self.assertLessEqual(len(text), 600)
        self.assertEqual(read_problem(text), problem)


class WritingErrorsTest(WrongCase):
    def test_plan_text(self):
        self.check_arguments(plan_text, ("plan", ("then", (0, 1)), NOT_PLANS))

    def test_problem_text(self):
        self.check_arguments(problem_text, ("problem", (3, ((0, BEFORE, 1),)), NOT_PROBLEMS))


if __name__ == "__main__":
    unittest.main()
