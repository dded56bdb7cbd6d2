"""Points 6, 9 to 13, 16, 17 and 19: what the functions tell and make of one plan."""

import unittest
from ast import literal_eval
from itertools import permutations

from thenbeside.plans import is_plan, joint, normal, relation, renamed, restricted, turned
from tests.samples import (MIXED_PLANS, NORMAL_PLANS, PLANS_OF_FIVE, SMALL_PLANS, is_normal, parts_of, relations_of,
                           sets_of, tasks_of)

EXAMPLE = ("then", (0, ("beside", (("then", (2, 3)), 1))))
NESTED = ("then", (("beside", (("then", (3, ("beside", (6, 0)))), 2)), ("beside", (("then", (5, 1)), 4))))
PLANS = (*SMALL_PLANS, *MIXED_PLANS)


def told_relations(plan):
    """The relations that the program tells of all pairs of tasks."""
    size = len(tasks_of(plan))
    return {(x, y): relation(plan, x, y) for x in range(size) for y in range(size) if x != y}


def counted(size):
    """The number of the normal plans of so many tasks that the program makes of all plans."""
    return len({normal(plan) for plan in SMALL_PLANS if len(tasks_of(plan)) == size})


class NormalTest(unittest.TestCase):
    def test_example(self):
        self.assertEqual(normal(EXAMPLE), ("then", (0, ("beside", (1, ("then", (2, 3)))))))

    def test_one_task(self):
        self.assertEqual(normal(0), 0)

    def test_numbers_of_normal_plans(self):
        self.assertEqual([counted(size) for size in range(1, 5)], [1, 3, 19, 195])

    def test_only_parts_of_beside_are_put_in_order(self):
        self.assertEqual(normal(("then", (2, 1, 0))), ("then", (2, 1, 0)))
        self.assertEqual(normal(("beside", (2, 1, 0))), ("beside", (0, 1, 2)))
        self.assertEqual(normal(("then", (3, ("beside", (2, 1)), 0))), ("then", (3, ("beside", (1, 2)), 0)))

    def test_order_is_that_of_the_least_tasks(self):
        self.assertEqual(normal(("beside", (1, ("then", (2, 0))))), ("beside", (("then", (2, 0)), 1)))
        self.assertEqual(normal(("beside", (("then", (4, 1)), ("then", (2, 3)), 0))),
                         ("beside", (0, ("then", (4, 1)), ("then", (2, 3)))))

    def test_several_levels(self):
        self.assertEqual(normal(NESTED), ("then", (("beside", (("then", (3, ("beside", (0, 6)))), 2)),
                                                   ("beside", (("then", (5, 1)), 4)))))
        plan = ("beside", (("then", (6, ("beside", (5, ("then", (4, ("beside", (3, 2)))))))), ("then", (1, 0))))
        self.assertEqual(normal(plan), ("beside", (("then", (1, 0)), ("then", (6, ("beside", (
            ("then", (4, ("beside", (2, 3)))), 5)))))))

    def test_result_is_a_normal_plan_with_the_same_relations(self):
        for plan in PLANS:
            result = normal(plan)
            self.assertTrue(is_plan(result, len(tasks_of(plan))))
            self.assertTrue(is_normal(result))
            self.assertEqual(relations_of(result), relations_of(plan))

    def test_normal_plans_stay(self):
        for plan in (*NORMAL_PLANS, *PLANS_OF_FIVE):
            self.assertEqual(normal(plan), plan)

    def test_plans_mean_the_same_exactly_if_all_relations_are_the_same(self):
        meant = {}
        for plan in SMALL_PLANS:
            told = (len(tasks_of(plan)), tuple(sorted(told_relations(plan).items())))
            self.assertEqual(meant.setdefault(told, normal(plan)), normal(plan))
        self.assertEqual(len(set(meant.values())), len(meant))


class RelationTest(unittest.TestCase):
    def test_examples(self):
        self.assertEqual(relation(EXAMPLE, 3, 2), "after")
        self.assertEqual(relation(EXAMPLE, 1, 3), "beside")
        for other in (1, 2, 3):
            self.assertEqual(relation(EXAMPLE, 0, other), "before")
        self.assertEqual([relation(EXAMPLE, 1, 2), relation(EXAMPLE, 1, 3)], ["beside", "beside"])
        self.assertEqual(relation(EXAMPLE, 2, 3), "before")

    def test_two_tasks(self):
        self.assertEqual(relation(("then", (1, 0)), 1, 0), "before")
        self.assertEqual(relation(("then", (1, 0)), 0, 1), "after")
        self.assertEqual(relation(("beside", (1, 0)), 0, 1), "beside")
        self.assertEqual(relation(("beside", (1, 0)), 1, 0), "beside")

    def test_all_pairs(self):
        for plan in PLANS:
            self.assertEqual(told_relations(plan), relations_of(plan))

    def test_opposites(self):
        opposites = {"before": "after", "after": "before", "beside": "beside"}
        for plan in PLANS:
            told = told_relations(plan)
            for (x, y), word in told.items():
                self.assertEqual(told[y, x], opposites[word])


class JointTest(unittest.TestCase):
    def test_example(self):
        self.assertEqual(joint(EXAMPLE, 1, 3), ("beside", (1, 2, 3)))

    def test_joints_of_one_plan(self):
        self.assertEqual(joint(NESTED, 6, 0), ("beside", (0, 6)))
        self.assertEqual(joint(NESTED, 0, 3), ("then", (0, 3, 6)))
        self.assertEqual(joint(NESTED, 2, 6), ("beside", (0, 2, 3, 6)))
        self.assertEqual(joint(NESTED, 5, 1), ("then", (1, 5)))
        self.assertEqual(joint(NESTED, 1, 4), ("beside", (1, 4, 5)))
        self.assertEqual(joint(NESTED, 4, 2), ("then", (0, 1, 2, 3, 4, 5, 6)))

    def test_neighbours_in_a_long_row_have_the_whole_row(self):
        self.assertEqual(joint(("then", (0, 1, 2)), 0, 1), ("then", (0, 1, 2)))
        self.assertEqual(joint(("beside", (2, 1, 0)), 0, 1), ("beside", (0, 1, 2)))

    def test_least_part_that_contains_both(self):
        for plan in PLANS:
            size = len(tasks_of(plan))
            for x, y in permutations(range(size), 2):
                around = [part for part in parts_of(plan) if {x, y} <= set(tasks_of(part))]
                least = min(around, key=lambda part: len(tasks_of(part)))
                self.assertEqual(joint(plan, x, y), (least[0], tuple(sorted(tasks_of(least)))))

    def test_word_tells_the_relation(self):
        for plan in PLANS:
            for (x, y), told in relations_of(plan).items():
                self.assertEqual(joint(plan, x, y)[0], "beside" if told == "beside" else "then")


class RestrictedTest(unittest.TestCase):
    def test_examples(self):
        self.assertEqual(restricted(EXAMPLE, (0, 2, 3)), ("then", (0, 1, 2)))
        self.assertEqual(restricted(EXAMPLE, (1, 3)), ("beside", (1, 0)))

    def test_all_tasks_chosen(self):
        for plan in PLANS:
            self.assertEqual(restricted(plan, tuple(range(len(tasks_of(plan))))), plan)

    def test_one_task_chosen(self):
        for plan in PLANS:
            for task in tasks_of(plan):
                self.assertEqual(restricted(plan, (task,)), 0)

    def test_parts_of_the_same_word_are_joined(self):
        plan = ("then", (0, ("beside", (("then", (3, ("beside", (4, 5)), 1)), 2)), 6))
        self.assertEqual(restricted(plan, (0, 1, 3, 5, 6)), ("then", (0, 2, 3, 1, 4)))
        self.assertEqual(restricted(plan, (1, 3, 4, 5)), ("then", (1, ("beside", (2, 3)), 0)))
        self.assertEqual(restricted(plan, (2, 4, 5)), ("beside", (1, 2, 0)))
        self.assertEqual(restricted(plan, (4, 5)), ("beside", (0, 1)))

    def test_result_is_a_plan_with_the_relations_that_the_tasks_had(self):
        for plan in PLANS:
            told = relations_of(plan)
            for chosen in sets_of(len(tasks_of(plan))):
                result = restricted(plan, chosen)
                self.assertTrue(is_plan(result, len(chosen)))
                self.assertEqual(relations_of(result), {(chosen.index(x), chosen.index(y)): word
                                                        for (x, y), word in told.items()
                                                        if x in chosen and y in chosen})

    def test_parts_keep_their_sequence(self):
        for plan in PLANS:
            for chosen in sets_of(len(tasks_of(plan))):
                standing = tuple(chosen.index(task) for task in tasks_of(plan) if task in chosen)
                self.assertEqual(tasks_of(restricted(plan, chosen)), standing)


class TurnedTest(unittest.TestCase):
    def test_example(self):
        self.assertEqual(turned(EXAMPLE), ("then", (("beside", (("then", (3, 2)), 1)), 0)))

    def test_one_task_and_one_word(self):
        self.assertEqual(turned(0), 0)
        self.assertEqual(turned(("then", (0, 1, 2))), ("then", (2, 1, 0)))
        self.assertEqual(turned(("beside", (2, 0, 1))), ("beside", (2, 0, 1)))

    def test_several_levels(self):
        self.assertEqual(turned(NESTED), ("then", (("beside", (("then", (1, 5)), 4)),
                                                   ("beside", (("then", (("beside", (6, 0)), 3)), 2)))))

    def test_before_and_after_are_exchanged(self):
        for plan in PLANS:
            result = turned(plan)
            self.assertTrue(is_plan(result, len(tasks_of(plan))))
            self.assertEqual(relations_of(result), {(y, x): word for (x, y), word in relations_of(plan).items()})

    def test_turned_twice_it_is_the_plan(self):
        for plan in PLANS:
            self.assertEqual(turned(turned(plan)), plan)


class RenamedTest(unittest.TestCase):
    def test_example(self):
        self.assertEqual(renamed(EXAMPLE, (3, 2, 1, 0)), ("then", (3, ("beside", (("then", (1, 0)), 2)))))

    def test_order_tells_what_each_task_becomes(self):
        self.assertEqual(renamed(("then", (0, 1, 2)), (1, 2, 0)), ("then", (1, 2, 0)))
        self.assertEqual(renamed(("then", (2, 0, 1)), (1, 2, 0)), ("then", (0, 1, 2)))
        self.assertEqual(renamed(("beside", (2, ("then", (0, 1)))), (1, 2, 0)), ("beside", (0, ("then", (1, 2)))))

    def test_one_task(self):
        self.assertEqual(renamed(0, (0,)), 0)

    def test_seven_tasks(self):
        self.assertEqual(renamed(NESTED, (1, 2, 3, 4, 5, 6, 0)), (
            "then", (("beside", (("then", (4, ("beside", (0, 1)))), 3)), ("beside", (("then", (6, 2)), 5)))))

    def test_all_orders(self):
        for plan in SMALL_PLANS:
            for order in permutations(range(len(tasks_of(plan)))):
                result = renamed(plan, order)
                self.assertTrue(is_plan(result, len(order)))
                self.assertEqual(tasks_of(result), tuple(order[task] for task in tasks_of(plan)))
                self.assertEqual(relations_of(result), {(order[x], order[y]): word
                                                        for (x, y), word in relations_of(plan).items()})

    def test_words_and_levels_stay(self):
        for plan in PLANS:
            size = len(tasks_of(plan))
            order = (*range(1, size), 0)
            back = (size - 1, *range(size - 1))
            self.assertEqual(renamed(renamed(plan, order), back), plan)
            self.assertEqual(renamed(plan, tuple(range(size))), plan)


class SameResultsTest(unittest.TestCase):
    def test_equal_arguments_give_equal_results(self):
        copies = [literal_eval(repr(plan)) for plan in PLANS]
        for plan, other in zip(PLANS, copies):
            chosen = tuple(range(0, len(tasks_of(plan)), 2))
            order = tuple(reversed(range(len(tasks_of(plan)))))
            self.assertEqual(normal(plan), normal(other))
            self.assertEqual(turned(plan), turned(other))
            self.assertEqual(restricted(plan, chosen), restricted(other, chosen))
            self.assertEqual(renamed(plan, order), renamed(other, order))
            self.assertEqual(plan, other)


if __name__ == "__main__":
    unittest.main()
