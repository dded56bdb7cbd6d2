"""Points 3 and 5: what is a plan, and for which size."""

import unittest

from thenbeside.plans import is_plan
from tests.samples import MIXED_PLANS, PLANS_OF_FIVE, SMALL_PLANS, tasks_of
from tests.wrong import NOT_PLANS, NOT_SIZES

SIZES = range(1, 8)


class IsPlanTest(unittest.TestCase):
    def check_size(self, plan, size):
        """The value is a plan for this size, and for no other one."""
        for other in range(-1, 10):
            self.assertIs(is_plan(plan, other), other == size, (plan, other))

    def test_example(self):
        self.assertIs(is_plan(("then", (("then", (0, 1)), 2)), 3), False)
        self.assertIs(is_plan(("beside", (0, 2)), 2), False)

    def test_all_plans_of_one_to_four_tasks(self):
        for plan in SMALL_PLANS:
            self.check_size(plan, len(tasks_of(plan)))

    def test_plans_of_five_tasks(self):
        for plan in PLANS_OF_FIVE:
            self.assertIs(is_plan(plan, 5), True)

    def test_plans_of_one_to_seven_tasks_with_several_levels(self):
        for plan in MIXED_PLANS:
            self.check_size(plan, len(tasks_of(plan)))

    def test_each_size_from_1_to_7(self):
        self.check_size(0, 1)
        for size in range(2, 8):
            for word in ("then", "beside"):
                self.check_size((word, tuple(range(size))), size)

    def test_a_task_alone_is_a_plan_for_size_1_only_if_it_is_0(self):
        for task in range(1, 9):
            for size in SIZES:
                self.assertIs(is_plan(task, size), False)

    def test_six_levels(self):
        plan = ("then", (0, ("beside", (1, ("then", (2, ("beside", (3, ("then", (4, ("beside", (5, 6))))))))))))
        self.check_size(plan, 7)
        turned = ("beside", (("then", (("beside", (("then", (("beside", (("then", (6, 5)), 4)), 3)), 2)), 1)), 0))
        self.check_size(turned, 7)

    def test_size_8_is_no_size(self):
        for word in ("then", "beside"):
            self.check_size((word, tuple(range(8))), None)

    def test_same_word_one_and_two_levels_below(self):
        self.check_size(("then", (0, ("then", (1, 2)))), None)
        self.check_size(("then", (0, ("beside", (1, ("then", (2, 3)))))), 4)
        self.check_size(("beside", (("beside", (0, 1)), 2)), None)
        self.check_size(("beside", (("then", (("beside", (0, 1)), 2)), 3)), 4)

    def test_what_is_no_plan(self):
        for index, value in enumerate(NOT_PLANS):
            for size in SIZES:
                with self.subTest(index=index, size=size):
                    self.assertIs(is_plan(value, size), False)

    def test_what_is_no_size(self):
        for size in NOT_SIZES:
            for plan in (0, ("then", (0, 1)), ("then", (0, 1, 2, 3, 4, 5, 6, 7)), (), None, True):
                self.assertIs(is_plan(plan, size), False, (plan, size))

    def test_one_task_left_out_or_twice_or_too_great(self):
        for plan in SMALL_PLANS:
            size = len(tasks_of(plan))
            for task in range(size):
                for other in (*(x for x in range(size) if x != task), size, size + 1, -1, True, None):
                    self.check_size(replaced(plan, task, other), None)

    def test_a_part_alone(self):
        for plan in SMALL_PLANS:
            for task in tasks_of(plan):
                self.check_size(replaced(plan, task, ("then", (task,))), None)
                self.check_size(replaced(plan, task, ("beside", (task,))), None)

    def test_lists_for_tuples(self):
        for plan in SMALL_PLANS:
            if not isinstance(plan, int):
                word, parts = plan
                for value in ([word, parts], (word, list(parts)), [word, list(parts)]):
                    for size in SIZES:
                        self.assertIs(is_plan(value, size), False)

    def test_lists_are_not_modified(self):
        inner = [1, 2]
        outer = ["then", [0, ("beside", inner)]]
        is_plan(outer, 3)
        is_plan(("then", (0, ("beside", inner))), 3)
        self.assertEqual(outer, ["then", [0, ("beside", [1, 2])]])


def replaced(plan, task, other):
    """The plan with another value in the place of a task."""
    if isinstance(plan, int):
        return other if plan == task else plan
    return (plan[0], tuple(replaced(piece, task, other) for piece in plan[1]))


if __name__ == "__main__":
    unittest.main()
