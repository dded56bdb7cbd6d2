"""Points 83 to 87 and 91 to 93: rules that can be dropped from a collection, and bases."""

import unittest
from itertools import product

from thenbeside.dropping import (accepts_grounds, can_be_dropped, grounds_for, is_possible, plan_without, smallest_base,
                                 told_base)
from thenbeside.errors import TooLarge
from thenbeside.plans import is_plan
from thenbeside.solving import solve
from tests.kept import Kept, collections_of
from tests.problems import (AFTER, ALL_OF_THREE, BEFORE, BESIDE, CHAIN, EXAMPLE, HAND_MADE, LARGE, LISTS, NOTHING_LEFT,
                            OF_FIVE, OF_FOUR, RING, SHAPE, VERDICTS, WORDS, by_indexes, drawn, is_kept_by,
                            kept_by_plan, kept_plans, others, stuck_sets, with_rule)
from tests.samples import NORMAL_PLANS, is_normal, relations_of, sets_of
from tests.wrong import NOT_PROBLEMS, WrongCase, not_ascending, not_tasks

# Problems of few tasks with several rules, some of them twice or with all three relations.
PROBLEMS = (*HAND_MADE[7:17], *ALL_OF_THREE[3::25], *OF_FOUR[::5], *OF_FIVE[2:4],
            *(drawn(seed, 3, 5, LISTS[2:]) for seed in range(8)), *(drawn(seed, 4, 7, LISTS[3:]) for seed in range(8)),
            *(kept_by_plan(seed, NORMAL_PLANS[4 + seed], 8) for seed in range(19)),
            *(kept_by_plan(seed, NORMAL_PLANS[23 + 6 * seed], 5 + seed % 4) for seed in range(32)),
            (2, ((0, ("before", "beside"), 1), (0, ("before", "after"), 1), (0, BEFORE, 1))),
            (3, CHAIN[1] + CHAIN[1]), (3, ((0, WORDS, 1), (1, BEFORE, 2), (2, WORDS, 0))), (1, ()), (4, ()))
LARGE_SOLVABLE = tuple(problem for problem in LARGE if solve(problem)[0] == "plan")


KEPT = {problem: Kept(problem) for problem in PROBLEMS}


def against(problem, collection, index):
    """The problems whose stuck sets are grounds for dropping the rule, one for each relation that it does not list."""
    first, words, second = problem[1][index]
    rest = by_indexes(problem, [other for other in collection if other != index])
    return [with_rule(rest, first, (word,), second) for word in others(words)]


class IsPossibleTest(unittest.TestCase):
    def test_examples(self):
        self.assertIs(is_possible(CHAIN, (0, 1, 2)), True)
        self.assertIs(is_possible(RING, (0, 1, 2)), False)
        for collection in ((), (0,), (1,), (2,), (0, 1), (0, 2), (1, 2)):
            self.assertIs(is_possible(RING, collection), True)

    def test_all(self):
        for problem in PROBLEMS:
            for collection in collections_of(problem):
                self.assertIs(is_possible(problem, collection), KEPT[problem].by(collection) != frozenset())

    def test_twenty_rules(self):
        for problem in LARGE:
            indexes = tuple(range(len(problem[1])))
            self.assertIs(is_possible(problem, indexes), solve(problem)[0] == "plan")
            self.assertIs(is_possible(problem, ()), True)


class CanBeDroppedTest(unittest.TestCase):
    def test_examples(self):
        self.assertIs(can_be_dropped(CHAIN, (0, 1, 2), 2), True)
        self.assertIs(can_be_dropped(CHAIN, (0, 1, 2), 1), False)
        self.assertIs(can_be_dropped(CHAIN, (0, 1, 2), 0), False)
        self.assertIs(can_be_dropped(CHAIN, (0, 2), 2), False)

    def test_exactly_if_all_plans_that_keep_the_others_keep_it(self):
        found = set()
        for problem in PROBLEMS:
            for collection in collections_of(problem):
                if is_possible(problem, collection):
                    for index in collection:
                        expected = KEPT[problem].drops(collection, index)
                        self.assertIs(can_be_dropped(problem, collection, index), expected)
                        found.add(expected)
        self.assertEqual(found, {True, False})

    def test_rule_that_lists_all_relations(self):
        for problem in (EXAMPLE, CHAIN, VERDICTS, (2, ())):
            more = with_rule(problem, 1, WORDS, 0)
            many = len(problem[1])
            self.assertIs(can_be_dropped(more, tuple(range(many + 1)), many), True)
            self.assertIs(can_be_dropped(more, (many,), many), True)

    def test_rule_that_stands_twice(self):
        problem = (3, CHAIN[1][:2] * 2)
        for index in range(4):
            self.assertIs(can_be_dropped(problem, (0, 1, 2, 3), index), True)
        self.assertIs(can_be_dropped(problem, (1, 2), 1), False)


class PlanWithoutTest(unittest.TestCase):
    def check_plan(self, problem, collection, index):
        """The plan keeps the others and not the rule; there is none exactly if the rule can be dropped."""
        plan = plan_without(problem, collection, index)
        self.assertIs(plan is None, can_be_dropped(problem, collection, index))
        if plan is not None:
            told = relations_of(plan)
            rest = [other for other in collection if other != index]
            self.assertIs(is_plan(plan, problem[0]), True)
            self.assertTrue(is_normal(plan))
            self.assertTrue(is_kept_by(by_indexes(problem, rest), told))
            self.assertFalse(is_kept_by(by_indexes(problem, [index]), told))

    def test_examples(self):
        self.assertIsNone(plan_without(CHAIN, (0, 1, 2), 2))
        self.check_plan(CHAIN, (0, 1, 2), 1)
        self.assertIsNotNone(plan_without(CHAIN, (0, 1, 2), 1))
        self.assertIsNotNone(plan_without((2, ((0, BEFORE, 1),)), (0,), 0))

    def test_all(self):
        for problem in PROBLEMS:
            for collection in collections_of(problem):
                if is_possible(problem, collection):
                    for index in collection:
                        self.check_plan(problem, collection, index)

    def test_large_problems(self):
        for problem in LARGE_SOLVABLE[::2]:
            collection = tuple(range(len(problem[1])))
            for index in collection:
                self.check_plan(problem, collection, index)
                self.check_plan(problem, collection[:index + 1], index)


class GroundsForTest(unittest.TestCase):
    def check_grounds(self, problem, collection, index):
        """There are grounds exactly if the rule can be dropped; they are accepted and right."""
        value = grounds_for(problem, collection, index)
        self.assertIs(value is not None, can_be_dropped(problem, collection, index))
        if value is not None:
            self.assertIsInstance(value, tuple)
            self.assertIs(accepts_grounds(problem, collection, index, value), True)
            problems = against(problem, collection, index)
            self.assertEqual(len(value), len(problems))
            for chosen, other in zip(value, problems):
                self.assertIn(chosen, stuck_sets(other))

    def test_examples(self):
        self.assertEqual(grounds_for(CHAIN, (0, 1, 2), 2), ((0, 1, 2), (0, 1, 2)))
        self.assertIsNone(grounds_for(CHAIN, (0, 1, 2), 1))
        self.assertEqual(grounds_for((2, ((0, WORDS, 1),)), (0,), 0), ())

    def test_all(self):
        for problem in PROBLEMS:
            for collection in collections_of(problem)[::2]:
                if is_possible(problem, collection):
                    for index in collection:
                        self.check_grounds(problem, collection, index)

    def test_large_problems(self):
        for problem in LARGE_SOLVABLE[::3]:
            collection = tuple(range(len(problem[1])))
            for index in collection[::2]:
                self.check_grounds(problem, collection, index)


class AcceptsGroundsTest(WrongCase):
    def test_examples(self):
        self.assertIs(accepts_grounds(CHAIN, (0, 1, 2), 2, grounds_for(CHAIN, (0, 1, 2), 2)), True)
        self.assertIs(accepts_grounds(CHAIN, (0, 1, 2), 2, ((0, 1, 2), (0, 1, 2))), True)
        self.assertIs(accepts_grounds(CHAIN, (0, 1, 2), 2, ((0, 1, 2), (0, 1))), False)
        self.assertIs(accepts_grounds(CHAIN, (0, 1, 2), 1, ((0, 1, 2), (0, 1, 2))), False)

    def test_all_tuples_of_sets(self):
        for problem in (CHAIN, RING, EXAMPLE, *PROBLEMS[-18::3]):
            for collection in collections_of(problem)[::3]:
                for index in collection:
                    stuck = [stuck_sets(other) for other in against(problem, collection, index)]
                    for many in range(4):
                        for value in list(product(sets_of(problem[0], 0), repeat=many))[::1 if many < 3 else 97]:
                            expected = len(value) == len(stuck) and all(
                                chosen in found for chosen, found in zip(value, stuck))
                            self.assertIs(accepts_grounds(problem, collection, index, value), expected)

    def test_accepted_grounds_are_for_rules_that_can_be_dropped(self):
        for problem in PROBLEMS[::3]:
            for collection in collections_of(problem)[::3]:
                for index in collection:
                    stuck = [stuck_sets(other) for other in against(problem, collection, index)]
                    if all(stuck):
                        value = tuple(found[-1] for found in stuck)
                        self.assertIs(accepts_grounds(problem, collection, index, value), True)
                    self.assertIs(all(stuck), KEPT[problem].drops(collection, index))

    def test_collection_that_is_not_possible(self):
        problem = (3, RING[1] + ((0, BEFORE, 1),))
        self.assertIs(accepts_grounds(problem, (0, 1, 2, 3), 3, ((0, 1, 2), (0, 1, 2))), True)
        self.assertIs(accepts_grounds(problem, (0, 1, 2, 3), 3, ((0, 1), (0, 1))), True)
        self.assertIs(accepts_grounds(problem, (0, 1, 2, 3), 3, ((0, 1), (0, 2))), False)

    def test_number_of_the_sets(self):
        for words in LISTS:
            problem = (3, RING[1] + ((0, words, 1),))
            for many in range(4):
                self.assertIs(accepts_grounds(problem, (0, 1, 2, 3), 3, ((0, 1, 2),) * many), many == 3 - len(words))

    def test_forms_that_are_not_right(self):
        right = ((0, 1, 2), (0, 1, 2))
        for value in (list(right), ([0, 1, 2], (0, 1, 2)), ((0, 1, 2), [0, 1, 2]), ((0, 1, 2), (2, 1, 0)), (0, 1, 2),
                      ((0, 1, 2), (0, 1, 1, 2)), ((0, True, 2), (0, 1, 2)), ((0, 1, 2), (0, 1.0, 2)), right[:1],
                      (right,), ((0, 1, 2), (0, 1, 2, 3)), ((0, 1, 2), ()), ((), ()), ((0, 1, 2), None),
                      (None, (0, 1, 2)), ("set", (0, 1, 2)), (("set", (0, 1, 2)),) * 2, "012",
                      ("012", "012"), {(0, 1, 2): (0, 1, 2)}):
            self.assertIs(accepts_grounds(CHAIN, (0, 1, 2), 2, value), False)
        for value in ([], None, False, 0, "", {}, ((),), ((0, 1),)):
            self.assertIs(accepts_grounds((2, ((0, WORDS, 1),)), (0,), 0, value), False)
        self.assertIs(accepts_grounds((2, ((0, WORDS, 1),)), (0,), 0, ()), True)

    def test_values_of_every_kind(self):
        for problem, collection, index in ((CHAIN, (0, 1, 2), 2), (RING, (0, 1, 2), 0), (VERDICTS, (1,), 1)):
            self.check_refuses(accepts_grounds, problem, collection, index)


class ToldBaseTest(unittest.TestCase):
    def test_examples(self):
        self.assertEqual(told_base(CHAIN), (0, 1))
        self.assertEqual(told_base((3, ())), ())
        self.assertEqual(told_base((3, CHAIN[1][::-1])), (1, 2))
        self.assertEqual(told_base((2, ((0, WORDS, 1), (1, AFTER, 0), (0, BEFORE, 1)))), (1,))

    def test_all(self):
        for problem in PROBLEMS:
            if kept_plans(problem):
                self.assertEqual(told_base(problem), KEPT[problem].told())

    def test_is_a_base(self):
        for problem in PROBLEMS:
            if kept_plans(problem) and len(problem[1]) < 9:
                self.assertIn(told_base(problem), KEPT[problem].bases())

    def test_large_problems(self):
        for problem in LARGE_SOLVABLE:
            indexes = tuple(range(len(problem[1])))
            base = told_base(problem)
            self.assertLessEqual(set(base), set(indexes))
            for index in indexes:
                if index in base:
                    self.assertIs(can_be_dropped(problem, base, index), False)
                else:
                    more = tuple(sorted((*base, index)))
                    self.assertIs(can_be_dropped(problem, more, index), True)

    def test_last_rule_is_dropped_first(self):
        # Each one of the three rules follows from the two others.
        problem = (2, ((0, ("before", "beside"), 1), (0, ("before", "after"), 1), (0, BEFORE, 1)))
        self.assertEqual(told_base(problem), (0, 1))
        self.assertEqual(smallest_base(problem), (2,))


class SmallestBaseTest(unittest.TestCase):
    def test_examples(self):
        self.assertEqual(smallest_base(CHAIN), (0, 1))
        self.assertEqual(smallest_base((3, ())), ())
        self.assertEqual(smallest_base((2, ((0, WORDS, 1),))), ())
        self.assertEqual(smallest_base((2, ((0, WORDS, 1), (1, AFTER, 0), (0, BEFORE, 1)))), (1,))

    def test_first_of_the_bases_with_the_fewest_rules(self):
        smaller = 0
        for problem in PROBLEMS:
            if kept_plans(problem) and len(problem[1]) < 9:
                self.assertEqual(smallest_base(problem), KEPT[problem].bases()[0])
                smaller += len(smallest_base(problem)) < len(told_base(problem))
        self.assertGreater(smaller, 2)

    def test_eight_rules(self):
        for problem in LARGE_SOLVABLE[::3]:
            problem = (problem[0], problem[1][-8:])
            indexes = tuple(range(len(problem[1])))
            base = smallest_base(problem)
            self.assertLessEqual(len(base), len(told_base(problem)))
            for index in indexes:
                more = tuple(sorted({*base, index}))
                self.assertIs(can_be_dropped(problem, more, index), index not in base)

    def test_all_eight_rules_are_needed(self):
        problem = (7, tuple((x, BEFORE, x + 1) for x in range(6)) + ((0, ("before", "beside"), 6), (0, BEFORE, 1)))
        self.assertEqual(smallest_base(problem), (0, 1, 2, 3, 4, 5))
        needed = (7, tuple((x, ("before", "beside"), x + 1) for x in range(6)) + ((0, BESIDE, 2), (4, BESIDE, 6)))
        self.assertEqual(smallest_base(needed), tuple(range(8)))
        self.assertEqual(told_base(needed), tuple(range(8)))


class DroppingErrorsTest(WrongCase):
    def check_too_large(self, problem):
        """More rules than 8 are refused by smallest_base."""
        with self.assertRaises(TooLarge) as caught:
            smallest_base(problem)
        self.assertEqual(caught.exception.what, "rules")

    def test_is_possible(self):
        for problem in (CHAIN, RING, drawn(9, 7, 20)):
            self.check_arguments(is_possible, ("problem", problem, NOT_PROBLEMS),
                                 ("collection", (1, 2), not_ascending(len(problem[1]))))
        for collection in ((0,), (False,), [], None, 0, ""):
            self.check_bad("collection", is_possible, (3, ()), collection)

    def test_index(self):
        for function in (can_be_dropped, grounds_for, plan_without):
            for problem in (CHAIN, (7, ((0, BEFORE, 6),) * 20)):
                many = len(problem[1])
                self.check_arguments(function, ("problem", problem, NOT_PROBLEMS),
                                     ("collection", (0, 2), not_ascending(many)),
                                     ("index", 2, (*not_tasks(many), 1)))
            for index in (0, 1, 2, None, False):
                self.check_bad("index", function, CHAIN, (), index)
                self.check_bad("index", function, RING, (), index)

    def test_accepts_grounds(self):
        for value in ((), ((0, 1, 2), (0, 1, 2)), None):
            def judge(problem, collection, index, held=value):
                return accepts_grounds(problem, collection, index, held)
            for problem in (CHAIN, RING):
                self.check_arguments(judge, ("problem", problem, NOT_PROBLEMS),
                                     ("collection", (0, 1), not_ascending(3)),
                                     ("index", 1, (*not_tasks(3), 2)))

    def test_bases(self):
        for function in (told_base, smallest_base):
            self.check_arguments(function, ("problem", CHAIN, NOT_PROBLEMS))

    def test_contradictory(self):
        for function in (can_be_dropped, grounds_for, plan_without):
            for index in range(3):
                self.check_not_possible("contradictory", function, RING, (0, 1, 2), index)
            for index in (0, 1):
                self.check_not_possible("contradictory", function, NOTHING_LEFT, (0, 1), index)
                function(NOTHING_LEFT, (index, 2), index)
        for function in (told_base, smallest_base):
            for problem in (RING, SHAPE, NOTHING_LEFT):
                self.check_not_possible("contradictory", function, problem)

    def test_every_collection_that_is_not_possible(self):
        for problem in PROBLEMS:
            for collection in collections_of(problem):
                if collection and KEPT[problem].by(collection) == frozenset():
                    for function in (can_be_dropped, grounds_for, plan_without):
                        self.check_not_possible("contradictory", function, problem, collection, collection[-1])

    def test_wrong_arguments_come_ahead_of_contradictory(self):
        for function in (can_be_dropped, grounds_for, plan_without):
            for wrong in not_tasks(3):
                self.check_bad("index", function, RING, (0, 1, 2), wrong)
            self.check_bad("index", function, NOTHING_LEFT, (0, 1), 2)
            for wrong in not_ascending(3):
                self.check_bad("collection", function, RING, wrong, 0)

    def test_eight_rules_and_nine(self):
        for size in (2, 5, 7):
            self.assertEqual(smallest_base((size, ((0, BEFORE, 1),) * 8)), (0,))
            for many in (9, 10, 20):
                self.check_too_large((size, ((0, BEFORE, 1),) * many))
                self.assertEqual(told_base((size, ((0, BEFORE, 1),) * many)), (0,))

    def test_contradictory_comes_ahead_of_too_large(self):
        for many in (5, 6, 17):
            self.check_not_possible("contradictory", smallest_base, (3, (RING[1] * 7)[:3 + many]))

    def test_wrong_problem_comes_ahead_of_too_large(self):
        for many in (8, 9, 19, 20):
            self.check_bad("problem", smallest_base, (3, RING[1][:1] * many + ((0, BEFORE, 3),)))
        for many in (21, 100):
            self.check_bad("problem", smallest_base, (3, RING[1][:1] * many))
            self.check_bad("problem", told_base, (3, RING[1][:1] * many))

    def test_lists_are_not_modified(self):
        problem = [3, [(0, ["before"], 1)]]
        collection = [1, 0]
        value = [[0, 1, 2], [0, 1, 2]]
        self.check_bad("problem", told_base, problem)
        self.check_bad("collection", can_be_dropped, CHAIN, collection, 0)
        self.assertIs(accepts_grounds(CHAIN, (0, 1, 2), 2, value), False)
        self.assertEqual((problem, collection, value),
                         ([3, [(0, ["before"], 1)]], [1, 0], [[0, 1, 2], [0, 1, 2]]))


if __name__ == "__main__":
    unittest.main()
