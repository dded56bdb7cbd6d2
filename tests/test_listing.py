"""Points 73 to 82: how many plans keep a problem, and in which order."""

import unittest
from itertools import combinations, permutations

from thenbeside.listing import count_among, count_plans, index_of_plan, nth_plan, plans_from
from thenbeside.plans import normal
from thenbeside.rules import part, renamed, turned
from thenbeside.solving import solve
from thenbeside.verdicts import open_relations
from tests.problems import (ALL_OF_THREE, BEFORE, EXAMPLE, HAND_MADE, LARGE, NOTHING_LEFT, OF_FIVE, OF_FOUR, RING,
                            SHAPE, SMALL, VERDICTS, WORDS, choices, drawn, is_kept_by, kept_plans, of_table, with_rule)
from tests.samples import MIXED_PLANS, SMALL_PLANS, is_normal, parts_of, relations_of, sets_of, tasks_of
from tests.wrong import ANY_VALUES, NOT_INTEGERS, NOT_PLANS, NOT_PROBLEMS, WrongCase, not_ascending

NUMBERS = (1, 3, 19, 195, 2791, 51303, 1152019)


def joined(word, first, second):
    """The plan with the word of a first part and a second plan."""
    pieces = second[1] if isinstance(second, tuple) and second[0] == word else (second,)
    return (word, (first, *pieces))


def plans_in_order(problem, chosen):
    """The list of the plans in order for the chosen set, by the words of the document."""
    found = choices(problem)
    made = {}

    def listed(tasks):
        if len(tasks) == 1:
            return [tasks[0]]
        if tasks not in made:
            made[tasks] = []
            for word, needed in (("beside", "beside"), ("then", "before")):
                for many in range(1, len(tasks)):
                    for some in combinations(tasks, many):
                        rest = tuple(task for task in tasks if task not in some)
                        if (word == "then" or tasks[0] in some) and all(
                                needed in found[x, y] for x in some for y in rest):
                            made[tasks].extend(joined(word, first, second) for first in listed(some)
                                               if isinstance(first, int) or first[0] != word for second in listed(rest))
        return made[tasks]

    return listed(tuple(chosen))


# Problems of six and seven tasks that few plans keep, and their plans in order.
FEW = [problem for problem in LARGE if count_plans(problem) <= 4000]
FEW_LISTS = [(problem, plans_in_order(problem, range(problem[0]))) for problem in FEW]


class CountPlansTest(unittest.TestCase):
    def test_examples(self):
        self.assertEqual(count_plans(VERDICTS), 3)
        self.assertEqual(count_plans((4, ())), 195)

    def test_no_rules(self):
        self.assertEqual(tuple(count_plans((size, ())) for size in range(1, 8)), NUMBERS)

    def test_rules_that_list_all_relations(self):
        for size in range(2, 8):
            self.assertEqual(count_plans((size, ((0, WORDS, 1),) * 20)), NUMBERS[size - 1])

    def test_as_many_as_keep_the_problem(self):
        for problem in (*SMALL, *OF_FIVE):
            self.assertEqual(count_plans(problem), len(kept_plans(problem)))

    def test_relations_of_two_tasks_make_up_all(self):
        for problem in (*SMALL[::9], *OF_FIVE, *LARGE[::3]):
            if problem[0] > 1 and len(problem[1]) < 20:
                for x, y in ((0, 1), (problem[0] - 1, 0)):
                    counts = [count_plans(with_rule(problem, x, (word,), y)) for word in WORDS]
                    self.assertEqual(sum(counts), count_plans(problem))

    def test_sequence_of_rules_opposites_and_names(self):
        for problem in (*SMALL[::9], *OF_FIVE, *LARGE[::4]):
            size, rules = problem
            many = count_plans(problem)
            self.assertEqual(count_plans((size, rules[::-1])), many)
            self.assertEqual(count_plans((size, (*rules, *rules[:1])[:20])), many)
            self.assertEqual(count_plans(turned(problem)), many)
            for order in list(permutations(range(size)))[::700 if size > 5 else 5]:
                self.assertEqual(count_plans(renamed(problem, order)), many)

    def test_none_exactly_if_a_set_is_stuck(self):
        for problem in (*SMALL, *OF_FIVE, *LARGE):
            self.assertIs(count_plans(problem) == 0, solve(problem)[0] == "set")

    def test_one_exactly_if_nothing_is_open(self):
        tables = [of_table(plan) for plan in MIXED_PLANS]
        for problem in (*SMALL[::5], *FEW, *tables):
            many = count_plans(problem)
            if many:
                fixed = all(len(open_relations(problem, x, y)) == 1 for x, y in combinations(range(problem[0]), 2))
                self.assertIs(many == 1, fixed)

    def test_contradictory(self):
        for problem in (RING, SHAPE, NOTHING_LEFT):
            self.assertEqual(count_plans(problem), 0)


class CountAmongTest(unittest.TestCase):
    def test_examples(self):
        self.assertEqual(count_among(VERDICTS, (1, 2)), 2)
        self.assertEqual(count_among(RING, (0, 1)), 1)
        self.assertEqual(count_among(RING, (0, 1, 2)), 0)

    def test_all_tasks_and_one_task(self):
        for problem in (*SMALL[::5], *OF_FIVE, *LARGE[::5]):
            self.assertEqual(count_among(problem, tuple(range(problem[0]))), count_plans(problem))
            for task in range(problem[0]):
                self.assertEqual(count_among(problem, (task,)), 1)

    def test_as_many_as_for_the_part(self):
        for problem in (*SMALL[::4], *OF_FIVE, *LARGE[::8]):
            for chosen in sets_of(problem[0]):
                self.assertEqual(count_among(problem, chosen), count_plans(part(problem, chosen)))

    def test_as_many_as_are_listed(self):
        for problem in (*HAND_MADE[7:13], *OF_FOUR[::6], *OF_FIVE[::6]):
            for chosen in sets_of(problem[0]):
                self.assertEqual(count_among(problem, chosen), len(plans_in_order(problem, chosen)))


class NthPlanTest(unittest.TestCase):
    def test_examples(self):
        self.assertEqual(nth_plan((3, ()), 0), ("beside", (0, 1, 2)))
        self.assertEqual(nth_plan((3, ()), 18), ("then", (("beside", (1, 2)), 0)))
        self.assertEqual(nth_plan((1, ()), 0), 0)

    def test_plans_in_order(self):
        for problem in (*HAND_MADE[:4], *HAND_MADE[7:18], *ALL_OF_THREE[::7], *OF_FOUR[::10], *OF_FIVE[2:4]):
            plans = plans_in_order(problem, range(problem[0]))
            self.assertEqual([nth_plan(problem, index) for index in range(len(plans))], plans)

    def test_exactly_the_plans_that_keep_the_problem(self):
        for problem in (*HAND_MADE[:4], *HAND_MADE[7:18], *ALL_OF_THREE[::7], *OF_FOUR[::10], *OF_FIVE[2:4]):
            plans = [nth_plan(problem, index) for index in range(count_plans(problem))]
            self.assertEqual(len(set(plans)), len(plans))
            self.assertEqual(set(plans), set(kept_plans(problem)))
            self.assertTrue(all(is_normal(plan) for plan in plans))

    def test_large_problems(self):
        self.assertGreater(len([plans for _, plans in FEW_LISTS if plans]), 10)
        for problem, plans in FEW_LISTS:
            self.assertEqual(count_plans(problem), len(plans))
            for index in sorted({0, 1, 2, len(plans) // 2, len(plans) - 2, len(plans) - 1}):
                if 0 <= index < len(plans):
                    self.assertEqual(nth_plan(problem, index), plans[index])

    def test_five_tasks_without_rules(self):
        plans = plans_in_order((5, ()), range(5))
        for index in range(0, 2791, 31):
            self.assertEqual(nth_plan((5, ()), index), plans[index])

    def test_first_and_last_of_seven_tasks(self):
        self.assertEqual(nth_plan((7, ()), 0), ("beside", (0, 1, 2, 3, 4, 5, 6)))
        last = 0
        for task in range(1, 7):
            last = nth_plan((task + 1, ()), NUMBERS[task] - 1)
            self.assertEqual(sorted(tasks_of(last)), list(range(task + 1)))
        self.assertEqual(last[0], "then")
        self.assertEqual(last[1][1], 0)


class IndexOfPlanTest(WrongCase):
    def test_examples(self):
        self.assertEqual(index_of_plan(VERDICTS, ("then", (0, ("beside", (2, 1))))), 1)
        self.assertEqual(index_of_plan((1, ()), 0), 0)
        self.assertIsNone(index_of_plan(VERDICTS, ("then", (1, 0, 2))))

    def test_each_index_leads_back_to_its_plan(self):
        for problem in (*HAND_MADE[:4], *HAND_MADE[7:18], *ALL_OF_THREE[::7], *OF_FOUR[::10], *OF_FIVE[2:4]):
            for index in range(count_plans(problem)):
                self.assertEqual(index_of_plan(problem, nth_plan(problem, index)), index)

    def test_large_problems(self):
        for problem, plans in FEW_LISTS:
            for index, plan in list(enumerate(plans))[::67]:
                self.assertEqual(index_of_plan(problem, plan), index)

    def test_seven_tasks_without_rules(self):
        for index in (0, 1, 2, 1000, 123456, 500000, 777777, 1000000, 1152017, 1152018):
            plan = nth_plan((7, ()), index)
            self.assertTrue(is_normal(plan) and sorted(tasks_of(plan)) == list(range(7)))
            self.assertEqual(index_of_plan((7, ()), plan), index)
        for plan in MIXED_PLANS:
            if len(tasks_of(plan)) == 7:
                self.assertEqual(nth_plan((7, ()), index_of_plan((7, ()), plan)), normal(plan))

    def test_all_plans(self):
        for problem in (*HAND_MADE[:4], *HAND_MADE[7:18], *ALL_OF_THREE[::40], *OF_FOUR[::30]):
            plans = plans_in_order(problem, range(problem[0]))
            for plan in SMALL_PLANS[::5]:
                if len(tasks_of(plan)) == problem[0] and is_kept_by(problem, relations_of(plan)):
                    self.assertEqual(index_of_plan(problem, plan), plans.index(normal(plan)))
                else:
                    self.assertIsNone(index_of_plan(problem, plan))

    def test_values_of_every_kind(self):
        for problem in (VERDICTS, RING, (7, ())):
            for index, value in enumerate((*ANY_VALUES, *NOT_PLANS)):
                with self.subTest(index=index):
                    self.assertIsNone(index_of_plan(problem, value))
        for value in ("0", None, False, True, 1, -1, (0,), [0], 0.0):
            self.assertIsNone(index_of_plan((1, ()), value))


class PlansFromTest(unittest.TestCase):
    def test_examples(self):
        plans = [("beside", (("then", (0, 1)), 2)), ("then", (0, ("beside", (1, 2)))), ("then", (0, 1, 2))]
        self.assertEqual(plans_from(VERDICTS, 0, 5), plans)
        for index in range(5):
            for many in range(6):
                self.assertEqual(plans_from(VERDICTS, index, many), plans[index:index + many])

    def test_all(self):
        for problem in (*HAND_MADE[:4], *HAND_MADE[7:18], *ALL_OF_THREE[::30], *OF_FOUR[::20]):
            plans = plans_in_order(problem, range(problem[0]))
            for index in (0, 1, 17, len(plans) - 1, len(plans), len(plans) + 1):
                for many in (0, 1, 2, 19, 20):
                    if index >= 0:
                        self.assertEqual(plans_from(problem, index, many), plans[index:index + many])

    def test_large_problems(self):
        for problem, plans in FEW_LISTS:
            for index in (0, len(plans) // 2, len(plans)):
                self.assertEqual(plans_from(problem, index, 20), plans[index:index + 20])

    def test_bounds(self):
        self.assertEqual(len(plans_from((7, ()), 0, 20)), 20)
        self.assertEqual(len(plans_from((7, ()), 1152010, 20)), 9)
        self.assertEqual(plans_from((7, ()), 1152018, 20), [nth_plan((7, ()), 1152018)])
        self.assertEqual(plans_from((7, ()), 1152019, 20), [])
        self.assertEqual(plans_from((7, ()), 2000000, 20), [])
        self.assertEqual(plans_from(RING, 2000000, 20), [])
        self.assertEqual(plans_from(RING, 0, 20), [])
        self.assertEqual(plans_from((1, ()), 0, 20), [0])

    def test_changing_the_list_changes_no_later_call(self):
        plans = plans_from(VERDICTS, 0, 20)
        self.assertIsInstance(plans, list)
        plans[:] = [None]
        plans.append(0)
        self.assertEqual(len(plans_from(VERDICTS, 0, 20)), 3)
        self.assertIsNot(plans_from(VERDICTS, 0, 0), plans_from(VERDICTS, 0, 0))

    def test_plans_beside_come_first(self):
        for size in (2, 3, 4):
            words = [plan[0] for index in range(0, NUMBERS[size - 1], 20) for plan in plans_from((size, ()), index, 20)]
            self.assertEqual(words, sorted(words))
            self.assertEqual(len(words), NUMBERS[size - 1])


class PlansForFourTasksTest(unittest.TestCase):
    def test_no_plan_is_listed_twice_in_another_form(self):
        told = [tuple(sorted(relations_of(nth_plan((4, ()), index)).items())) for index in range(195)]
        self.assertEqual(len(set(told)), 195)

    def test_no_part_of_the_same_word(self):
        for index in range(195):
            for piece in parts_of(nth_plan((4, ()), index)):
                if not isinstance(piece, int):
                    self.assertNotIn(piece[0], [inner[0] for inner in piece[1] if not isinstance(inner, int)])


class ListingErrorsTest(WrongCase):
    def test_count_plans(self):
        self.check_arguments(count_plans, ("problem", VERDICTS, NOT_PROBLEMS))

    def test_count_among(self):
        for problem in (RING, SHAPE, drawn(4, 7, 20)):
            self.check_arguments(count_among, ("problem", problem, NOT_PROBLEMS),
                                 ("chosen", (1, 2), ((), *not_ascending(problem[0]))))

    def test_nth_plan(self):
        for problem in (VERDICTS, (1, ()), (7, ()), EXAMPLE):
            many = count_plans(problem)
            self.check_arguments(nth_plan, ("problem", problem, NOT_PROBLEMS),
                                 ("index", many - 1, (*NOT_INTEGERS, -1, many, many + 1, 10 ** 30)))

    def test_no_plan_has_no_index(self):
        for problem in (RING, SHAPE, NOTHING_LEFT):
            for index in (0, 1, -1, None, True, False):
                self.check_bad("index", nth_plan, problem, index)

    def test_plans_from(self):
        for problem in (VERDICTS, RING, (1, ()), (7, ((0, BEFORE, 1),))):
            self.check_arguments(plans_from, ("problem", problem, NOT_PROBLEMS),
                                 ("index", 2000000, (*NOT_INTEGERS, -1, 2000001, 10 ** 30)),
                                 ("many", 20, (*NOT_INTEGERS, -1, 21, 10 ** 30)))

    def test_index_of_plan(self):
        for index, problem in enumerate(NOT_PROBLEMS):
            for value in (0, ("then", (0, 1, 2)), None):
                with self.subTest(index=index):
                    self.check_bad("problem", index_of_plan, problem, value)

    def test_lists_are_not_modified(self):
        problem = [3, [(0, ["before"], 1)]]
        chosen = [0, 1]
        value = ["then", [0, 1, 2]]
        self.check_bad("problem", count_plans, problem)
        self.check_bad("chosen", count_among, RING, chosen)
        self.assertIsNone(index_of_plan(VERDICTS, value))
        self.assertEqual((problem, chosen, value), ([3, [(0, ["before"], 1)]], [0, 1], ["then", [0, 1, 2]]))


if __name__ == "__main__":
    unittest.main()
