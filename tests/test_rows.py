"""Points 15, 16 and 19: rows of plans."""

import unittest
from itertools import permutations
from math import factorial

from thenbeside.plans import normal, turned
from thenbeside.rows import count_rows, is_row_of
from tests.samples import MIXED_PLANS, SMALL_PLANS, rows_of, tasks_of
from tests.wrong import NOT_PLANS, WrongCase, not_orders

EXAMPLE = ("then", (0, ("beside", (("then", (2, 3)), 1))))


def told_rows(plan):
    """The tuple of all rows that the program accepts, ascending."""
    return tuple(row for row in permutations(range(len(tasks_of(plan)))) if is_row_of(plan, row))


class CountRowsTest(unittest.TestCase):
    def test_example(self):
        self.assertEqual(count_rows(EXAMPLE), 3)
        self.assertEqual(count_rows(("then", (0, ("beside", (1, ("then", (2, 3))))))), 3)

    def test_one_word(self):
        self.assertEqual(count_rows(0), 1)
        for size in range(2, 8):
            self.assertEqual(count_rows(("then", tuple(range(size)))), 1)
            self.assertEqual(count_rows(("beside", tuple(range(size)))), factorial(size))

    def test_numbers(self):
        self.assertEqual(count_rows(("beside", (("then", (0, 1)), ("then", (2, 3))))), 6)
        self.assertEqual(count_rows(("then", (("beside", (0, 1)), ("beside", (2, 3))))), 4)
        self.assertEqual(count_rows(("beside", (("then", (0, 1, 2)), ("then", (3, 4)), ("then", (5, 6))))), 210)
        self.assertEqual(count_rows(("beside", (("then", (0, ("beside", (1, 2)))), ("then", (("beside", (3, 4)), 5)),
                                                6))), 560)

    def test_number_of_the_rows_that_there_are(self):
        for plan in (*SMALL_PLANS, *MIXED_PLANS):
            self.assertEqual(count_rows(plan), len(rows_of(plan)), plan)

    def test_result_is_an_integer(self):
        for plan in MIXED_PLANS:
            self.assertIs(count_rows(plan).__class__, int)


class IsRowOfTest(unittest.TestCase):
    def test_example(self):
        self.assertIs(is_row_of(EXAMPLE, (0, 2, 1, 3)), True)
        self.assertIs(is_row_of(EXAMPLE, (0, 3, 1, 2)), False)
        self.assertEqual(told_rows(EXAMPLE), ((0, 1, 2, 3), (0, 2, 1, 3), (0, 2, 3, 1)))

    def test_one_task(self):
        self.assertIs(is_row_of(0, (0,)), True)

    def test_neighbours_and_tasks_far_apart(self):
        plan = ("then", (0, 1, 2, 3, 4, 5, 6))
        self.assertIs(is_row_of(plan, (0, 1, 2, 3, 4, 5, 6)), True)
        self.assertIs(is_row_of(plan, (0, 1, 2, 4, 3, 5, 6)), False)
        self.assertIs(is_row_of(("beside", (("then", (0, 6)), 1, 2, 3, 4, 5)), (6, 1, 2, 3, 4, 5, 0)), False)
        self.assertIs(is_row_of(("beside", (("then", (0, 6)), 1, 2, 3, 4, 5)), (0, 5, 4, 3, 2, 1, 6)), True)

    def test_all_rows(self):
        for plan in (*SMALL_PLANS, *(plan for plan in MIXED_PLANS if len(tasks_of(plan)) < 7)):
            self.assertEqual(told_rows(plan), tuple(rows_of(plan)), plan)

    def test_all_rows_of_seven_tasks(self):
        plan = MIXED_PLANS[-1]
        self.assertEqual(told_rows(plan), tuple(rows_of(plan)))

    def test_turned_plan_has_the_turned_rows(self):
        for plan in SMALL_PLANS:
            self.assertEqual(sorted(row[::-1] for row in told_rows(plan)), list(told_rows(turned(plan))))

    def test_plans_with_the_same_rows_mean_the_same(self):
        meant = {}
        for plan in SMALL_PLANS:
            self.assertEqual(meant.setdefault(told_rows(plan), normal(plan)), normal(plan))


class RowsErrorsTest(WrongCase):
    def test_wrong_arguments(self):
        self.check_arguments(count_rows, ("plan", EXAMPLE, NOT_PLANS))
        self.check_arguments(is_row_of, ("plan", EXAMPLE, NOT_PLANS), ("row", (0, 1, 2, 3), not_orders(4)))
        seven = ("beside", (6, 5, 4, 3, 2, 1, 0))
        self.check_arguments(is_row_of, ("plan", seven, NOT_PLANS), ("row", (0, 1, 2, 3, 4, 5, 6), not_orders(7)))

    def test_row_of_one_task(self):
        for row in ((), (1,), (0, 0), (True,), (False,), [0], 0, None, (0, 1), "0"):
            self.check_bad("row", is_row_of, 0, row)


if __name__ == "__main__":
    unittest.main()
