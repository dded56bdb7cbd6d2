"""Point 18: wrong arguments of the functions of thenbeside.plans."""

import unittest

from thenbeside.plans import joint, normal, relation, renamed, restricted, turned
from tests.wrong import NOT_PLANS, WrongCase, not_ascending, not_orders, not_tasks

PLAN = ("then", (0, ("beside", (("then", (2, 3)), 1))))
SEVEN = ("beside", (6, 5, ("then", (4, 3, 2)), 1, 0))


class PlansErrorsTest(WrongCase):
    def test_normal_and_turned(self):
        for function in (normal, turned):
            self.check_arguments(function, ("plan", PLAN, NOT_PLANS))

    def test_two_tasks(self):
        for function in (relation, joint):
            self.check_arguments(function, ("plan", PLAN, NOT_PLANS), ("first", 1, not_tasks(4)),
                                 ("second", 3, (*not_tasks(4), 1)))
            self.check_arguments(function, ("plan", SEVEN, NOT_PLANS), ("first", 0, not_tasks(7)),
                                 ("second", 6, (*not_tasks(7), 0)))

    def test_second_task_is_the_first_one(self):
        for function in (relation, joint):
            for task in range(4):
                self.check_bad("second", function, PLAN, task, task)

    def test_one_task_has_no_other_one(self):
        for function in (relation, joint):
            self.check_bad("second", function, 0, 0, 0)
            self.check_bad("second", function, 0, 0, 1)
            self.check_bad("first", function, 0, 1, 0)
            self.check_bad("first", function, 0, 1, 1)

    def test_restricted(self):
        self.check_arguments(restricted, ("plan", PLAN, NOT_PLANS), ("chosen", (0, 2), ((), *not_ascending(4))))
        self.check_arguments(restricted, ("plan", SEVEN, NOT_PLANS), ("chosen", (6,), ((), *not_ascending(7))))

    def test_restricted_of_one_task(self):
        for chosen in ((), (1,), (0, 0), (0, 1), (False,), [0], 0, None, "0"):
            self.check_bad("chosen", restricted, 0, chosen)

    def test_renamed(self):
        self.check_arguments(renamed, ("plan", PLAN, NOT_PLANS), ("order", (3, 1, 0, 2), not_orders(4)))
        self.check_arguments(renamed, ("plan", SEVEN, NOT_PLANS), ("order", (6, 5, 4, 3, 2, 1, 0), not_orders(7)))

    def test_renamed_of_one_task(self):
        for order in ((), (1,), (0, 0), (0, 1), (False,), [0], 0, None, "0"):
            self.check_bad("order", renamed, 0, order)


if __name__ == "__main__":
    unittest.main()
