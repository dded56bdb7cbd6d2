"""Points 14 and 18: plans that are put together."""

import unittest
from itertools import product

from thenbeside.errors import PlanError, TooLarge
from thenbeside.plans import is_plan, put_together
from tests.samples import MIXED_PLANS, SMALL_PLANS, relations_of, tasks_of
from tests.wrong import NOT_PLANS, NOT_TUPLES, NOT_WORDS, WrongCase

UP_TO_THREE = [plan for plan in SMALL_PLANS if len(tasks_of(plan)) <= 3]
RELATIONS = {"then": ("before", "after"), "beside": ("beside", "beside")}


def expected_relations(word, plans):
    """The relations of the tasks of the plans, each one numbered behind those ahead of it."""
    told = {}
    start = 0
    for plan in plans:
        size = len(tasks_of(plan))
        for x in range(start):
            for y in range(start, start + size):
                told[x, y], told[y, x] = RELATIONS[word]
        for (x, y), relation in relations_of(plan).items():
            told[start + x, start + y] = relation
        start += size
    return told


class PutTogetherTest(unittest.TestCase):
    def test_example(self):
        self.assertEqual(put_together("then", (("then", (1, 0)), 0, ("beside", (0, 1)))),
                         ("then", (1, 0, 2, ("beside", (3, 4)))))

    def test_one_plan_stays(self):
        for plan in (*SMALL_PLANS, *MIXED_PLANS):
            for word in ("then", "beside"):
                self.assertEqual(put_together(word, (plan,)), plan)

    def test_two_tasks(self):
        self.assertEqual(put_together("then", (0, 0)), ("then", (0, 1)))
        self.assertEqual(put_together("beside", (0, 0)), ("beside", (0, 1)))

    def test_parts_that_have_the_word_give_their_parts(self):
        then, beside = ("then", (1, 0)), ("beside", (1, 0))
        self.assertEqual(put_together("then", (then, then)), ("then", (1, 0, 3, 2)))
        self.assertEqual(put_together("beside", (beside, beside)), ("beside", (1, 0, 3, 2)))
        self.assertEqual(put_together("then", (beside, then)), ("then", (("beside", (1, 0)), 3, 2)))
        self.assertEqual(put_together("beside", (beside, then)), ("beside", (1, 0, ("then", (3, 2)))))
        self.assertEqual(put_together("beside", (0, beside)), ("beside", (0, 2, 1)))

    def test_only_the_uppermost_level_is_joined(self):
        plan = ("beside", (0, ("then", (2, 1))))
        self.assertEqual(put_together("then", (plan, 0)), ("then", (plan, 3)))
        self.assertEqual(put_together("beside", (plan, 0)), ("beside", (0, ("then", (2, 1)), 3)))

    def test_seven_tasks_in_all(self):
        self.assertEqual(put_together("beside", (0,) * 7), ("beside", (0, 1, 2, 3, 4, 5, 6)))
        six = ("then", (0, ("beside", (1, 2)), 5, 4, 3))
        self.assertEqual(put_together("then", (six, 0)), ("then", (0, ("beside", (1, 2)), 5, 4, 3, 6)))
        self.assertEqual(put_together("then", (0, six)), ("then", (0, 1, ("beside", (2, 3)), 6, 5, 4)))
        self.assertEqual(put_together("beside", (0, six)), ("beside", (0, ("then", (1, ("beside", (2, 3)), 6, 5, 4)))))

    def test_two_and_three_plans(self):
        for many in (2, 3):
            for plans in product(UP_TO_THREE[:12] if many == 3 else UP_TO_THREE, repeat=many):
                if sum(len(tasks_of(plan)) for plan in plans) > 7:
                    continue
                for word in ("then", "beside"):
                    result = put_together(word, plans)
                    self.assertEqual(relations_of(result), expected_relations(word, plans))
                    self.assertTrue(is_plan(result, sum(len(tasks_of(plan)) for plan in plans)))

    def test_parts_keep_their_sequence(self):
        for plans in product(UP_TO_THREE, repeat=2):
            size = len(tasks_of(plans[0]))
            standing = tasks_of(plans[0]) + tuple(size + task for task in tasks_of(plans[1]))
            self.assertEqual(tasks_of(put_together("beside", plans)), standing)
            self.assertEqual(tasks_of(put_together("then", plans)), standing)


class PutTogetherErrorsTest(WrongCase):
    def check_too_large(self, word, plans):
        with self.assertRaises(TooLarge) as caught:
            put_together(word, plans)
        self.assertEqual(caught.exception.what, "tasks")
        self.assertIsInstance(caught.exception, PlanError)

    def test_more_than_seven_tasks(self):
        four = ("beside", (3, ("then", (0, 1)), 2))
        for word in ("then", "beside"):
            self.check_too_large(word, (0,) * 8)
            self.check_too_large(word, (four, four))
            self.check_too_large(word, (0, ("then", (0, 1, 2, 3, 4, 5, 6))))
            self.check_too_large(word, (("beside", (0, 1, 2, 3, 4, 5, 6)), 0))
            self.check_too_large(word, (0,) * 1000)

    def test_wrong_arguments(self):
        wrongs = [*NOT_TUPLES, (), ("then", (0, 1)), ("then",), (("then", (0, 1)), 1), (0, 1), ((0, 0),), [0, 0],
                  ([0], 0), (0, ()), ((),)]
        wrongs += [(value,) for value in NOT_PLANS]
        wrongs += [(0, value) for value in NOT_PLANS]
        wrongs += [(value, ("then", (1, 0))) for value in NOT_PLANS]
        self.check_arguments(put_together, ("word", "then", NOT_WORDS), ("plans", (0, ("beside", (1, 0))), wrongs))
        self.check_arguments(put_together, ("word", "beside", NOT_WORDS), ("plans", (0,), wrongs))

    def test_wrong_arguments_come_before_too_many_tasks(self):
        seven = ("then", (0, 1, 2, 3, 4, 5, 6))
        for word in NOT_WORDS:
            self.check_bad("word", put_together, word, (seven, seven))
            self.check_bad("word", put_together, word, (seven, seven, None))
        for value in NOT_PLANS:
            self.check_bad("plans", put_together, "then", (seven, seven, value))
            self.check_bad("plans", put_together, "then", (value, seven, seven))
        self.check_bad("plans", put_together, "then", [seven, seven])

    def test_lists_of_plans_are_not_modified(self):
        plans = [0, ("then", (0, 1))]
        self.check_bad("plans", put_together, "then", plans)
        self.assertEqual(plans, [0, ("then", (0, 1))])


if __name__ == "__main__":
    unittest.main()
