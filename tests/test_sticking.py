"""Points 41 to 46, 48 to 51: ties and hindrances, splits and stuck sets."""

import unittest
from itertools import product

from thenbeside.plans import relation
from thenbeside.rules import part, turned
from thenbeside.sticking import accepts_split, hinders, is_stuck, is_tied, reached, split_of
from tests.problems import (ALL_OF_THREE, BEFORE, EXAMPLE, HAND_MADE, LARGE, LISTS, NOTHING_LEFT, OF_FIVE, OF_FOUR,
                            RING, SHAPE, SMALL, choices, drawn, kept_plans, splits_of, stuck_sets, with_rule)
from tests.samples import parts_of, sets_of, tasks_of
from tests.wrong import ANY_VALUES, NOT_PROBLEMS, WrongCase, deep, not_ascending, not_tasks

PROBLEMS = (*SMALL, *OF_FIVE, *LARGE)


def closed(problem, chosen, task, word):
    """The ascending tuple of what the task reaches within the chosen set: steps lead where the word is not allowed."""
    found = choices(problem)
    inside = {task}
    for _ in chosen:
        inside |= {y for x in inside for y in chosen if x != y and word not in found[x, y]}
    return tuple(sorted(inside))


def told_split(problem, chosen):
    """The told split, or None, by the words of the document."""
    ties = closed(problem, chosen, chosen[0], "beside")
    if ties != chosen:
        return ("beside", ties, tuple(task for task in chosen if task not in ties))
    for task in chosen:
        there = closed(problem, chosen, task, "before")
        if there != chosen:
            return ("then", there, tuple(other for other in chosen if other not in there))
    return None


def halves(chosen):
    """The pairs of two sets, each with a task at least, that have together the chosen tasks."""
    for sides in product((0, 1), repeat=len(chosen)):
        if 0 < sum(sides) < len(chosen):
            yield tuple(tuple(task for task, side in zip(chosen, sides) if side == which) for which in (0, 1))


class TiedTest(unittest.TestCase):
    def test_examples(self):
        self.assertIs(is_tied(SHAPE, 0, 1), False)
        self.assertIs(hinders(SHAPE, 0, 2), False)
        self.assertIs(is_tied(SHAPE, 0, 2), True)
        self.assertIs(hinders(SHAPE, 2, 0), True)
        self.assertIs(hinders(SHAPE, 0, 1), True)

    def test_no_rules(self):
        for first, second in ((0, 1), (1, 0), (0, 6), (6, 5)):
            self.assertIs(is_tied((7, ()), first, second), False)
            self.assertIs(hinders((7, ()), first, second), False)

    def test_no_relation_allowed(self):
        for first, second in ((0, 3), (3, 0)):
            self.assertIs(is_tied(NOTHING_LEFT, first, second), True)
            self.assertIs(hinders(NOTHING_LEFT, first, second), True)

    def test_all(self):
        for problem in PROBLEMS:
            for (x, y), words in choices(problem).items():
                self.assertIs(is_tied(problem, x, y), "beside" not in words)
                self.assertIs(hinders(problem, x, y), "before" not in words)


class ReachedTest(unittest.TestCase):
    def test_examples(self):
        self.assertEqual(reached(SHAPE, (0, 2, 3), 0), ((0, 2), (0, 2, 3)))
        self.assertEqual(reached(SHAPE, (0, 3), 3), ((3,), (0, 3)))
        self.assertEqual(reached(RING, (0, 1), 0), ((0, 1), (0,)))
        self.assertEqual(reached(RING, (0, 1), 1), ((0, 1), (0, 1)))

    def test_one_task(self):
        for problem in HAND_MADE:
            for task in range(problem[0]):
                self.assertEqual(reached(problem, (task,), task), ((task,), (task,)))

    def test_rows_lead_through_the_set_alone(self):
        # Ties lead from 0 by 1 to 2, but not within the set of 0 and 2.
        problem = (3, ((0, BEFORE, 1), (1, BEFORE, 2)))
        self.assertEqual(reached(problem, (0, 1, 2), 2), ((0, 1, 2), (0, 1, 2)))
        self.assertEqual(reached(problem, (0, 2), 2), ((2,), (2,)))

    def test_long_rows(self):
        problem = (7, tuple((x, BEFORE, x + 1) for x in range(6)))
        tasks = tuple(range(7))
        for task in tasks:
            self.assertEqual(reached(problem, tasks, task), (tasks, tasks[:task + 1]))

    def test_all(self):
        for problem in (*SMALL[::2], *OF_FIVE, *LARGE[::4]):
            for chosen in sets_of(problem[0]):
                for task in chosen:
                    expected = (closed(problem, chosen, task, "beside"), closed(problem, chosen, task, "before"))
                    self.assertEqual(reached(problem, chosen, task), expected)


class IsStuckTest(unittest.TestCase):
    def test_examples(self):
        self.assertIs(is_stuck(SHAPE, (0, 1, 2, 3)), True)
        for chosen in sets_of(4):
            self.assertIs(is_stuck(SHAPE, chosen), len(chosen) == 4)
        for chosen in sets_of(3):
            self.assertIs(is_stuck(RING, chosen), len(chosen) == 3)

    def test_one_task_is_not_stuck(self):
        for problem in PROBLEMS:
            for task in range(problem[0]):
                self.assertIs(is_stuck(problem, (task,)), False)

    def test_all_reach_one_another(self):
        for problem in PROBLEMS:
            for chosen in sets_of(problem[0], 2)[::1 if problem[0] < 6 else 5]:
                expected = all(closed(problem, chosen, task, word) == chosen for task in chosen
                               for word in ("beside", "before"))
                self.assertIs(is_stuck(problem, chosen), expected)

    def test_stuck_exactly_if_there_is_no_split(self):
        for problem in (*SMALL[::2], *OF_FIVE, *LARGE[::6]):
            self.assertEqual([chosen for chosen in sets_of(problem[0]) if is_stuck(problem, chosen)],
                             stuck_sets(problem))

    def test_some_plan_keeps_a_problem_exactly_if_no_set_is_stuck(self):
        for problem in (*SMALL, *OF_FIVE):
            stuck = any(is_stuck(problem, chosen) for chosen in sets_of(problem[0]))
            self.assertIs(stuck, kept_plans(problem) == [])

    def test_two_tasks_are_stuck_exactly_if_no_relation_is_allowed(self):
        for problem in PROBLEMS:
            for (x, y), words in choices(problem).items():
                if x < y:
                    self.assertIs(is_stuck(problem, (x, y)), words == set())

    def test_all_tasks_of_rings_are_stuck(self):
        for size in range(3, 8):
            ring = (size, tuple((x, BEFORE, (x + 1) % size) for x in range(size)))
            for chosen in sets_of(size):
                self.assertIs(is_stuck(ring, chosen), len(chosen) == size)

    def test_further_rules_and_tasks(self):
        for problem in (*ALL_OF_THREE[::3], *OF_FOUR):
            size, rules = problem
            for chosen in stuck_sets(problem):
                self.assertIs(is_stuck((size + 1, rules), chosen), True)
                self.assertIs(is_stuck((7, rules), chosen), True)
                for words in LISTS:
                    self.assertIs(is_stuck(with_rule(problem, 2, words, 0), chosen), True)

    def test_turned_problem(self):
        for problem in (*SMALL, *OF_FIVE, *LARGE[::4]):
            for chosen in sets_of(problem[0]):
                self.assertIs(is_stuck(turned(problem), chosen), is_stuck(problem, chosen))

    def test_a_set_can_be_looked_at_alone(self):
        for problem in (*SMALL[::3], *OF_FIVE):
            for chosen in sets_of(problem[0]):
                alone = part(problem, chosen)
                self.assertIs(is_stuck(alone, tuple(range(len(chosen)))), is_stuck(problem, chosen))


class SplitOfTest(unittest.TestCase):
    def test_examples(self):
        self.assertEqual(split_of(SHAPE, (0, 1, 2)), ("then", (0, 1), (2,)))
        self.assertEqual(split_of(SHAPE, (0, 1, 3)), ("beside", (0,), (1, 3)))
        self.assertIsNone(split_of(SHAPE, (0, 1, 2, 3)))
        self.assertEqual(split_of(EXAMPLE, (0, 1, 2)), ("beside", (0, 1), (2,)))
        self.assertEqual(split_of((7, ()), (2, 4, 6)), ("beside", (2,), (4, 6)))

    def test_one_task_has_none(self):
        for problem in HAND_MADE:
            for task in range(problem[0]):
                self.assertIsNone(split_of(problem, (task,)))

    def test_told_split(self):
        words = set()
        for problem in PROBLEMS:
            for chosen in sets_of(problem[0])[::1 if problem[0] < 6 else 3]:
                expected = told_split(problem, chosen) if len(chosen) > 1 else None
                self.assertEqual(split_of(problem, chosen), expected)
                words.add(expected and (expected[0], chosen[0] in expected[1]))
        # By "then" the least task can be in the rest; by "beside" it is in the part.
        self.assertEqual(words, {None, ("beside", True), ("then", True), ("then", False)})

    def test_told_split_is_accepted(self):
        for problem in PROBLEMS:
            for chosen in sets_of(problem[0])[::1 if problem[0] < 6 else 3]:
                split = split_of(problem, chosen)
                self.assertIs(split is None, is_stuck(problem, chosen) or len(chosen) == 1)
                if split is not None:
                    self.assertIs(accepts_split(problem, chosen, split), True)


class AcceptsSplitTest(WrongCase):
    def test_examples(self):
        self.assertIs(accepts_split(SHAPE, (0, 1, 2), ("then", (1,), (0, 2))), False)
        self.assertIs(accepts_split(SHAPE, (0, 1), ("beside", (1,), (0,))), True)

    def test_exactly_the_splits(self):
        for problem in (*HAND_MADE, *ALL_OF_THREE[::5], *OF_FOUR[::4], *OF_FIVE[::4]):
            tasks = tuple(range(problem[0]))
            for chosen in (tasks, tasks[1:], tasks[:2]):
                if chosen:
                    found = splits_of(problem, chosen)
                    for some, rest in halves(chosen):
                        for word in ("beside", "then"):
                            split = (word, some, rest)
                            self.assertIs(accepts_split(problem, chosen, split), split in found)

    def test_split_of_another_set(self):
        for chosen in sets_of(4, 2):
            for other in sets_of(4, 2):
                split = ("beside", other[:1], other[1:])
                self.assertIs(accepts_split((4, ()), chosen, split), chosen == other)

    def test_parts_that_have_not_exactly_the_tasks(self):
        for some, rest in (((), (0, 1, 2)), ((0, 1, 2), ()), ((0,), (1,)), ((0, 1), (1, 2)), ((0,), (0, 1, 2)),
                           ((0, 1, 2), (0, 1, 2)), ((1,), (0,)), ((0,), (1, 2, 3)), ((3,), (0, 1, 2)), ((0,), (2, 1)),
                           ((1, 0), (2,)), ((0, 0), (1, 2)), ((0,), (1, 1, 2)), ([0], (1, 2)), ((0,), [1, 2]),
                           ((False,), (1, 2)), ((0,), (True, 2)), ((0.0,), (1, 2)), (0, (1, 2)), ((0, 1), 2),
                           (None, (0, 1, 2)), ((0,), "12"), ((0,), (1, "2")), ((0,), ((1, 2),)), ((0,), (1, 2, None)),
                           ((-1,), (0, 1, 2)), ((0,), (1, 2, 10 ** 30)), ((0,), (1, 2, deep(5000)))):
            for word in ("beside", "then"):
                self.assertIs(accepts_split((5, ()), (0, 1, 2), (word, some, rest)), False)
        for word in ("beside", "then"):
            self.assertIs(accepts_split((5, ()), (0, 1, 2), (word, (0,), (1, 2))), True)

    def test_other_words_and_lengths(self):
        for word in ("before", "after", "Then", "", None, 0, True, ("then",), ["then"], b"then", "plan", "set"):
            self.assertIs(accepts_split((3, ()), (0, 1, 2), (word, (0,), (1, 2))), False)
        for value in (["then", (0,), (1, 2)], ("then", (0,), (1, 2), ()), ("then", (0,)), ("then", ((0,), (1, 2))),
                      ((0,), "then", (1, 2)), ("then", (0,), (1,), (2,))):
            self.assertIs(accepts_split((3, ()), (0, 1, 2), value), False)

    def test_values_of_every_kind(self):
        for problem in (SHAPE, (7, ()), (1, ())):
            self.check_refuses(accepts_split, problem, tuple(range(problem[0])))
            self.check_refuses(accepts_split, problem, (0,))

    def test_one_task_has_no_split(self):
        for value in (("beside", (0,), ()), ("beside", (), (0,)), ("then", (0,), (0,)), ("beside", (0,), (1,))):
            self.assertIs(accepts_split((3, ()), (0,), value), False)

    def test_splits_stay_if_rules_are_left_out(self):
        for problem in (*SMALL[::8], *OF_FIVE[::5]):
            chosen = tuple(range(problem[0]))
            for split in splits_of(problem, chosen):
                for many in range(len(problem[1])):
                    fewer = (problem[0], problem[1][:many] + problem[1][many + 1:])
                    self.assertIs(accepts_split(fewer, chosen, split), True)

    def test_splits_of_the_parts(self):
        for problem in (*SMALL[::6], *OF_FIVE[::5]):
            tasks = tuple(range(problem[0]))
            for word, some, rest in splits_of(problem, tasks):
                for chosen in sets_of(problem[0], 2):
                    sides = [tuple(task for task in side if task in chosen) for side in (some, rest)]
                    if all(sides):
                        self.assertIs(accepts_split(problem, chosen, (word, *sides)), True)

    def test_plans_show_a_split_of_every_set(self):
        for problem in (*SMALL[::6], *OF_FIVE[::6]):
            for plan in kept_plans(problem)[::7]:
                for chosen in sets_of(problem[0], 2):
                    # The least part of the plan with all of the set parts its tasks for the first time.
                    word, pieces = [piece for piece in parts_of(plan) if set(chosen) <= set(tasks_of(piece))][-1]
                    groups = [tuple(task for task in chosen if task in tasks_of(piece)) for piece in pieces]
                    first = next(group for group in groups if group)
                    rest = tuple(task for task in chosen if task not in first)
                    self.assertIs(accepts_split(problem, chosen, (word, first, rest)), True)
                    self.assertEqual(relation(plan, first[0], rest[0]), {"then": "before", "beside": "beside"}[word])

    def test_turned_problem(self):
        for problem in (*SMALL[::5], *OF_FIVE[::5]):
            tasks = tuple(range(problem[0]))
            for some, rest in halves(tasks):
                for word in ("beside", "then"):
                    self.assertIs(accepts_split(turned(problem), tasks, (word, rest, some)),
                                  accepts_split(problem, tasks, (word, some, rest)))


class StickingErrorsTest(WrongCase):
    def test_two_tasks(self):
        for function in (is_tied, hinders):
            for problem in (SHAPE, drawn(3, 7, 20)):
                size = problem[0]
                self.check_arguments(function, ("problem", problem, NOT_PROBLEMS), ("first", 1, not_tasks(size)),
                                     ("second", 3, (*not_tasks(size), 1)))
            for first, second, name in ((0, 0, "second"), (0, 1, "second"), (1, 0, "first"), (1, 1, "first")):
                self.check_bad(name, function, (1, ()), first, second)

    def test_chosen(self):
        for function in (is_stuck, split_of):
            for problem in (RING, SHAPE, drawn(4, 7, 20)):
                self.check_arguments(function, ("problem", problem, NOT_PROBLEMS),
                                     ("chosen", (1, 2), ((), *not_ascending(problem[0]))))
                self.check_bad("chosen", function, (1, ()), ())
                self.check_bad("chosen", function, (1, ()), (1,))

    def test_reached(self):
        for problem in (SHAPE, drawn(5, 7, 20)):
            self.check_arguments(reached, ("problem", problem, NOT_PROBLEMS),
                                 ("chosen", (0, 2, 3), ((), *not_ascending(problem[0]))),
                                 ("task", 2, (*not_tasks(problem[0]), 1)))

    def test_task_of_the_problem_that_is_not_chosen(self):
        for chosen in sets_of(4):
            for task in range(4):
                if task not in chosen:
                    self.check_bad("task", reached, SHAPE, chosen, task)

    def test_accepts_split(self):
        for value in (("beside", (0,), (1, 2)), None, *ANY_VALUES[::9]):
            for index, problem in enumerate(NOT_PROBLEMS):
                with self.subTest(index=index):
                    self.check_bad("problem", accepts_split, problem, (0, 1, 2), value)
                    self.check_bad("problem", accepts_split, problem, (), value)
            for index, chosen in enumerate(((), *not_ascending(4))):
                with self.subTest(index=index):
                    self.check_bad("chosen", accepts_split, SHAPE, chosen, value)

    def test_lists_are_not_modified(self):
        chosen = [2, 1]
        value = ["then", [1], [2]]
        self.check_bad("chosen", split_of, SHAPE, chosen)
        self.assertIs(accepts_split(SHAPE, (1, 2), value), False)
        self.assertEqual((chosen, value), ([2, 1], ["then", [1], [2]]))


if __name__ == "__main__":
    unittest.main()
