"""Points 52 to 62: answers, splits, and least stuck sets."""

import unittest

from thenbeside.plans import is_plan, normal, restricted
from thenbeside.rules import gathered, part, turned
from thenbeside.solving import accepts, least_stuck, solve, splits, with_split
from thenbeside.sticking import accepts_split, is_stuck
from tests.problems import (ALL_OF_THREE, BEFORE, BESIDE, CHAIN, EXAMPLE, HAND_MADE, LARGE, LISTS, NOTHING_LEFT,
                            OF_FIVE, OF_FOUR, RING, SHAPE, SMALL, TOLD, drawn, is_kept_by, kept_plans, of_table,
                            splits_of, stuck_sets, with_rule)
from tests.samples import MIXED_PLANS, PLANS_OF_FIVE, SMALL_PLANS, is_normal, relations_of, sets_of, tasks_of
from tests.wrong import ANY_VALUES, NOT_PLANS, NOT_PROBLEMS, NOT_WORDS, WrongCase, deep, not_ascending, shared

PROBLEMS = (*SMALL, *OF_FIVE, *LARGE)
# Problems with the relations of a plan, and with one of these changed.
OF_PLANS = tuple(of_table(plan) for plan in (*MIXED_PLANS, *PLANS_OF_FIVE[::300]))
CHANGED = tuple(of_table(plan, (x, y)) for plan in (*MIXED_PLANS[4:], *PLANS_OF_FIVE[::500])
                for x in range(len(tasks_of(plan))) for y in range(x + 1, len(tasks_of(plan))))


def has_split(plan, split):
    """Whether the tasks have in the plan the relations that the split tells."""
    word, some, rest = split
    told = relations_of(plan)
    needed = {"beside": "beside", "then": "before"}[word]
    return all(told[x, y] == needed for x in some for y in rest)


def is_right(problem, answer):
    """Whether an answer of the right form is right."""
    word, value = answer
    if word == "plan":
        return is_kept_by(problem, relations_of(value))
    return len(value) > 1 and not splits_of(problem, value)


class SolveTest(unittest.TestCase):
    def check_answer(self, problem):
        """The answer is accepted and right."""
        answer = solve(problem)
        self.assertIsInstance(answer, tuple)
        word, value = answer
        self.assertIn(word, ("plan", "set"))
        if word == "plan":
            self.assertIs(is_plan(value, problem[0]), True)
            self.assertTrue(is_normal(value))
        self.assertTrue(is_right(problem, answer))
        self.assertIs(accepts(problem, answer), True)
        return word

    def test_examples(self):
        self.assertEqual(solve(EXAMPLE)[0], "plan")
        self.assertEqual(solve(RING), ("set", (0, 1, 2)))
        self.assertEqual(solve(SHAPE), ("set", (0, 1, 2, 3)))
        self.assertEqual(solve((1, ())), ("plan", 0))
        self.assertEqual(solve(NOTHING_LEFT), ("set", (0, 3)))
        self.assertEqual(solve((2, ((1, BEFORE, 0),))), ("plan", ("then", (1, 0))))

    def test_plan_exactly_if_some_plan_keeps_the_problem(self):
        for problem in (*SMALL, *OF_FIVE):
            self.assertEqual(self.check_answer(problem), "plan" if kept_plans(problem) else "set")

    def test_large_problems(self):
        words = [self.check_answer(problem) for problem in LARGE]
        self.assertGreater(min(words.count("plan"), words.count("set")), 10)

    def test_problems_of_plans(self):
        for problem, plan in zip(OF_PLANS, (*MIXED_PLANS, *PLANS_OF_FIVE[::300])):
            self.assertEqual(self.check_answer(problem), "plan")
            if len(problem[1]) == problem[0] * (problem[0] - 1) // 2:
                self.assertEqual(solve(problem), ("plan", normal(plan)))

    def test_problems_with_one_relation_changed(self):
        words = [self.check_answer(problem) for problem in CHANGED]
        self.assertGreater(min(words.count("plan"), words.count("set")), 10)

    def test_rings_of_up_to_seven_tasks(self):
        for size in range(2, 8):
            ring = (size, tuple((x, BEFORE, (x + 1) % size) for x in range(size)))
            self.assertEqual(solve(ring), ("set", tuple(range(size))))

    def test_all_beside_one_another_or_one_after_another(self):
        for size in range(1, 8):
            pairs = [(x, y) for x in range(size) for y in range(x + 1, size)][-20:]
            for words in LISTS:
                if "beside" in words or "before" in words:
                    self.assertEqual(self.check_answer((size, tuple((x, words, y) for x, y in pairs))), "plan")

    def test_which_rules_stand_twice_or_in_which_sequence(self):
        for problem in (*SMALL[::5], *OF_FIVE, *LARGE[::3]):
            other = (problem[0], (problem[1][::-1] + problem[1])[:20])
            word = solve(problem)[0]
            if len(problem[1]) < 11:
                self.assertEqual(self.check_answer(other), word)
            if gathered(problem) is None:
                self.assertEqual(word, "set")
            else:
                self.assertEqual(self.check_answer(gathered(problem)), word)
            self.assertEqual(self.check_answer(turned(problem)), word)

    def test_fewer_rules(self):
        for problem in (*OF_FOUR, *OF_FIVE, *LARGE[::4]):
            for many in range(len(problem[1])):
                fewer = (problem[0], problem[1][:many] + problem[1][many + 1:])
                # "plan" is less than "set": what has a plan still has one.
                self.assertLessEqual(self.check_answer(fewer), solve(problem)[0])

    def test_parts_of_a_problem_that_a_plan_keeps(self):
        for problem in PROBLEMS[::4]:
            word, plan = solve(problem)
            if word == "plan":
                for chosen in sets_of(problem[0]):
                    alone = part(problem, chosen)
                    self.assertEqual(solve(alone)[0], "plan")
                    self.assertIs(accepts(alone, ("plan", restricted(plan, chosen))), True)

    def test_same_answer_each_time(self):
        for problem in PROBLEMS[::6]:
            self.assertEqual(solve(problem), solve((problem[0], tuple(problem[1]))))


class AcceptsTest(WrongCase):
    def test_examples(self):
        self.assertIs(accepts(EXAMPLE, ("plan", ("beside", (("then", (0, 1)), 2)))), True)
        self.assertIs(accepts(EXAMPLE, ("plan", ("then", (0, 2, 1)))), False)
        self.assertIs(accepts(RING, ("set", (0, 1))), False)
        self.assertIs(accepts(RING, ("set", (0, 1, 2))), True)

    def test_plans(self):
        for problem in (*HAND_MADE, *ALL_OF_THREE[::9], *OF_FOUR[::10]):
            for plan in (*SMALL_PLANS[::3], *MIXED_PLANS):
                right = len(tasks_of(plan)) == problem[0] and is_kept_by(problem, relations_of(plan))
                self.assertIs(accepts(problem, ("plan", plan)), right)

    def test_sets(self):
        for problem in (*SMALL, *OF_FIVE, *LARGE[::5]):
            stuck = stuck_sets(problem)
            for chosen in sets_of(problem[0], 0):
                self.assertIs(accepts(problem, ("set", chosen)), chosen in stuck)

    def test_answers_of_exactly_one_word(self):
        for problem in (*ALL_OF_THREE, *OF_FOUR):
            plans = any(accepts(problem, ("plan", plan)) for plan, _ in TOLD[problem[0]])
            stuck = any(accepts(problem, ("set", chosen)) for chosen in sets_of(problem[0]))
            self.assertEqual(plans + stuck, 1)

    def test_further_rules_keep_sets_and_fewer_keep_plans(self):
        for problem in OF_FOUR:
            word, value = solve(problem)
            for words in LISTS:
                more = with_rule(problem, 3, words, 0)
                if word == "set":
                    self.assertIs(accepts(more, ("set", value)), True)
                for plan in kept_plans(more)[:5]:
                    self.assertIs(accepts(problem, ("plan", plan)), True)

    def test_forms_that_are_not_right(self):
        for value in (["set", (0, 1, 2)], ("set", [0, 1, 2]), ("set", (0, 1, 2), ()), ("set", 0, 1, 2), ("set",),
                      ("set", (2, 1, 0)), ("set", (0, 1, 1)), ("set", (0, 0, 1, 2)), ("set", (0, 1, 2, 3)),
                      ("set", (0, True, 2)), ("set", (False, 1, 2)), ("set", (0, 1.0, 2)), ("set", (-1, 0, 1, 2)),
                      ("set", "012"), ("plan", (0, 1, 2)), ("Set", (0, 1, 2)), (0, 1, 2), "set", (("set", (0, 1, 2)),),
                      ((0, 1, 2), "set"), ("set", {0: 0, 1: 1, 2: 2}), ("set", ("set", (0, 1, 2)))):
            self.assertIs(accepts(RING, value), False)
        for plan in NOT_PLANS:
            self.assertIs(accepts((3, ()), ("plan", plan)), False)
        for plan in MIXED_PLANS:
            for word in (*NOT_WORDS, "set", "then", "Plan"):
                self.assertIs(accepts((len(tasks_of(plan)), ()), (word, plan)), False)
            self.assertIs(accepts((len(tasks_of(plan)), ()), ("plan", plan)), True)
            self.assertIs(accepts((len(tasks_of(plan)), ()), ["plan", plan]), False)
            self.assertIs(accepts((len(tasks_of(plan)), ()), plan), False)

    def test_values_of_every_kind(self):
        for problem in ((1, ()), (2, ()), RING, SHAPE, EXAMPLE, (7, ())):
            self.check_refuses(accepts, problem)


class SplitsTest(unittest.TestCase):
    def test_examples(self):
        self.assertEqual(splits(EXAMPLE, (0, 1, 2)), [("beside", (0, 1), (2,)), ("beside", (2,), (0, 1)),
                                                     ("then", (0,), (1, 2)), ("then", (0, 1), (2,))])
        self.assertEqual(splits(SHAPE, (0, 1, 2, 3)), [])
        self.assertEqual(splits((7, ()), (2, 5)), [("beside", (2,), (5,)), ("beside", (5,), (2,)),
                                                  ("then", (2,), (5,)), ("then", (5,), (2,))])

    def test_all(self):
        for problem in (*SMALL[::2], *OF_FIVE, *LARGE[::7]):
            for chosen in sets_of(problem[0], 2):
                found = splits(problem, chosen)
                self.assertIsInstance(found, list)
                self.assertEqual(found, splits_of(problem, chosen))
                self.assertEqual(found, sorted(set(found)))

    def test_seven_tasks_without_rules(self):
        found = splits((7, ()), tuple(range(7)))
        self.assertEqual(len(found), 2 * (2 ** 7 - 2))
        self.assertEqual(found, sorted(found))
        self.assertEqual(found[:2], [("beside", (0,), (1, 2, 3, 4, 5, 6)), ("beside", (0, 1), (2, 3, 4, 5, 6))])

    def test_accepted(self):
        for problem in PROBLEMS[::7]:
            tasks = tuple(range(problem[0]))
            if len(tasks) > 1:
                for split in splits(problem, tasks):
                    self.assertIs(accepts_split(problem, tasks, split), True)

    def test_changing_the_list_changes_no_later_call(self):
        found = splits(EXAMPLE, (0, 1, 2))
        found[:] = [None]
        found.append(0)
        self.assertEqual(len(splits(EXAMPLE, (0, 1, 2))), 4)
        self.assertIsNot(splits(EXAMPLE, (0, 1, 2)), splits(EXAMPLE, (0, 1, 2)))


class WithSplitTest(unittest.TestCase):
    def test_examples(self):
        self.assertEqual(with_split(EXAMPLE, ("then", (0, 1), (2,))), ("then", (0, 1, 2)))
        self.assertEqual(with_split((2, ()), ("beside", (1,), (0,))), ("beside", (0, 1)))
        self.assertEqual(with_split((2, ()), ("then", (1,), (0,))), ("then", (1, 0)))

    def check_splits(self, problem):
        """For each split there is a plan exactly if some plan keeps the problem."""
        tasks = tuple(range(problem[0]))
        solvable = solve(problem)[0] == "plan"
        for split in splits_of(problem, tasks):
            plan = with_split(problem, split)
            self.assertIs(plan is not None, solvable)
            if plan is not None:
                self.assertIs(is_plan(plan, problem[0]), True)
                self.assertTrue(is_normal(plan))
                self.assertTrue(has_split(plan, split))
                self.assertTrue(is_kept_by(problem, relations_of(plan)))

    def test_all_splits(self):
        for problem in (*SMALL, *OF_FIVE, *LARGE[::3]):
            self.check_splits(problem)

    def test_stuck_part(self):
        # The ring of the tasks 0 to 2 with another task: it can be split, and no plan keeps it.
        problem = (4, RING[1])
        for split in (("beside", (0, 1, 2), (3,)), ("beside", (3,), (0, 1, 2)), ("then", (0, 1, 2), (3,)),
                      ("then", (3,), (0, 1, 2))):
            self.assertIsNone(with_split(problem, split))

    def test_every_split_of_seven_tasks(self):
        for split in splits((7, ()), tuple(range(7)))[::5]:
            plan = with_split((7, ()), split)
            self.assertTrue(has_split(plan, split) and is_normal(plan))

    def test_plans_have_splits(self):
        for plan in (*SMALL_PLANS[::3], *MIXED_PLANS):
            if not isinstance(plan, int):
                word, pieces = plan
                size = len(tasks_of(plan))
                for many in range(1, len(pieces)):
                    some = tuple(sorted(task for piece in pieces[:many] for task in tasks_of(piece)))
                    rest = tuple(task for task in range(size) if task not in some)
                    self.assertTrue(has_split(plan, (word, some, rest)))
                    problem = of_table(plan)
                    if len(problem[1]) == size * (size - 1) // 2:
                        self.assertEqual(with_split(problem, (word, some, rest)), normal(plan))


class LeastStuckTest(unittest.TestCase):
    def test_examples(self):
        self.assertEqual(least_stuck(RING), (0, 1, 2))
        self.assertEqual(least_stuck(SHAPE), (0, 1, 2, 3))
        self.assertIsNone(least_stuck(EXAMPLE))
        self.assertEqual(least_stuck(NOTHING_LEFT), (0, 3))
        for size in range(1, 8):
            self.assertIsNone(least_stuck((size, ())))

    def test_first_of_the_sets_with_the_fewest_tasks(self):
        for problem in PROBLEMS:
            found = stuck_sets(problem)
            self.assertEqual(least_stuck(problem), found[0] if found else None)

    def test_fewer_tasks_come_first(self):
        # The ring of 0, 1 and 2 is stuck, and of 3 and 4 no relation is allowed.
        problem = (6, RING[1] + ((3, BEFORE, 4), (3, BESIDE, 4), (4, BEFORE, 5), (4, BESIDE, 5)))
        self.assertEqual(least_stuck(problem), (3, 4))

    def test_none_exactly_if_there_is_a_plan(self):
        for problem in PROBLEMS:
            self.assertIs(least_stuck(problem) is None, solve(problem)[0] == "plan")


class SplittingTest(unittest.TestCase):
    def test_words_of_the_splits(self):
        for problem in (*SMALL[::5], *OF_FIVE):
            for chosen in sets_of(problem[0], 2):
                words = {split[0] for split in splits(problem, chosen)}
                self.assertIs(not words, is_stuck(problem, chosen))

    def test_splitting_in_whatever_way(self):
        for problem in (*SMALL[::20], *OF_FIVE[::6]):
            solvable = kept_plans(problem) != []
            for pick in range(5):
                self.assertIs(self.split_up(problem, tuple(range(problem[0])), pick), solvable)

    def split_up(self, problem, chosen, pick):
        """Whether single tasks remain if the set is split by some split, and its parts again."""
        if len(chosen) == 1:
            return True
        found = splits(problem, chosen)
        if not found:
            return False
        _, some, rest = found[pick * 7 % len(found)]
        return self.split_up(problem, some, pick) and self.split_up(problem, rest, pick)


class SolvingErrorsTest(WrongCase):
    def test_problem(self):
        for function in (solve, least_stuck):
            self.check_arguments(function, ("problem", SHAPE, NOT_PROBLEMS))

    def test_splits(self):
        for problem in (RING, SHAPE, drawn(4, 7, 20)):
            self.check_arguments(splits, ("problem", problem, NOT_PROBLEMS),
                                 ("chosen", (1, 2), ((), (0,), (1,), *not_ascending(problem[0]))))
        for chosen in ((), (0,), (0, 0), (0, 1)):
            self.check_bad("chosen", splits, (1, ()), chosen)

    def test_with_split(self):
        wrongs = (*ANY_VALUES, ("beside", (0, 1), (2, 3)), ("then", (2,), (0, 1, 3)), ("then", (0,), (1, 2)),
                  ("then", (0, 1, 2, 3), ()), ("then", (), (0, 1, 2, 3)), ("then", (1, 0), (2, 3)),
                  ("then", [0, 1], (2, 3)), ["then", (0, 1), (2, 3)], ("then", (0, 1), (2, 3), ()),
                  ("then", (0, 1), (1, 2, 3)), ("then", (0, True), (2, 3)), ("Then", (0, 1), (2, 3)))
        problem = (4, ((0, BEFORE, 2), (1, BEFORE, 3)))
        right = ("then", (0, 1), (2, 3))
        self.check_arguments(with_split, ("problem", problem, NOT_PROBLEMS), ("split", right, wrongs))

    def test_one_task_and_stuck_tasks_have_no_split(self):
        for value in (("beside", (0,), ()), ("beside", (), (0,)), ("then", (0,), (0,)), ("then", (0,), (1,)), None):
            self.check_bad("split", with_split, (1, ()), value)
        for split in splits((4, ()), (0, 1, 2, 3)):
            self.check_bad("split", with_split, SHAPE, split)

    def test_every_split_of_others_is_refused(self):
        for problem in (EXAMPLE, CHAIN, RING, *ALL_OF_THREE[::25]):
            for split in splits((3, ()), (0, 1, 2)):
                if split not in splits_of(problem, (0, 1, 2)):
                    self.check_bad("split", with_split, problem, split)

    def test_accepts(self):
        for index, problem in enumerate(NOT_PROBLEMS):
            for answer in (("plan", 0), ("set", (0, 1)), None, deep(5000), shared(100)):
                with self.subTest(index=index):
                    self.check_bad("problem", accepts, problem, answer)

    def test_lists_are_not_modified(self):
        split = ["then", [0], [1, 2]]
        answer = ["set", [0, 1, 2]]
        self.check_bad("split", with_split, (3, ()), split)
        self.assertIs(accepts(RING, answer), False)
        self.assertEqual((split, answer), (["then", [0], [1, 2]], ["set", [0, 1, 2]]))


if __name__ == "__main__":
    unittest.main()
