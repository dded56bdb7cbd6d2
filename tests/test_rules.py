"""Points 7 and 31 to 40: rules and problems."""

import unittest
from itertools import permutations

from thenbeside.plans import renamed as renamed_plan, restricted, turned as turned_plan
from thenbeside.rules import allowed, broken, gathered, is_problem, keeps, part, renamed, rule_turned, turned
from tests.problems import (AFTER, ALL_OF_THREE, BEFORE, BESIDE, EXAMPLE, HAND_MADE, LARGE, LISTS, NOTHING_LEFT,
                            OF_FIVE, OF_FOUR, OPPOSITES, RING, SHAPE, SMALL, TOLD, WORDS, choices, kept_plans,
                            with_rule)
from tests.samples import MIXED_PLANS, SMALL_PLANS, relations_of, sets_of, tasks_of
from tests.wrong import (NOT_PLANS, NOT_PROBLEMS, NOT_RULES, NOT_SIZES, RULE, WrongCase, not_ascending, not_orders,
                         not_tasks)

PROBLEMS = (*SMALL, *OF_FIVE, *LARGE)
SEVEN = (7, tuple((x, BEFORE, y) for x in range(7) for y in range(x + 1, 7))[:20])


def in_order(words):
    """The tuple of these relations, in order."""
    return tuple(word for word in WORDS if word in words)


def turned_words(words):
    """The tuple of the opposites of these relations, in order."""
    return in_order([OPPOSITES[word] for word in words])


def plans_of_size(size):
    """Some plans for the size, not all of them normal."""
    return [plan for plan in (*SMALL_PLANS, *MIXED_PLANS) if len(tasks_of(plan)) == size]


class IsProblemTest(unittest.TestCase):
    def test_problems(self):
        for problem in PROBLEMS:
            self.assertIs(is_problem(problem), True)

    def test_every_list_of_relations(self):
        self.assertEqual(len(LISTS), 7)
        for words in LISTS:
            self.assertIs(is_problem((2, ((0, words, 1),))), True)
            self.assertIs(is_problem((2, ((1, words, 0),))), True)
            if len(words) > 1:
                self.assertIs(is_problem((2, ((1, words[::-1], 0),))), False)

    def test_twenty_rules_and_twenty_one(self):
        for size in (2, 4, 7):
            for many in range(23):
                self.assertIs(is_problem((size, (RULE,) * many)), many <= 20)

    def test_sizes(self):
        for size in range(1, 8):
            self.assertIs(is_problem((size, ())), True)
            self.assertIs(is_problem((size, ((0, BESIDE, size - 1),))), size > 1)
            self.assertIs(is_problem((size, ((0, BESIDE, size),))), False)
            self.assertIs(is_problem((size, ((size, BESIDE, 0),))), False)
        for size in NOT_SIZES:
            self.assertIs(is_problem((size, ())), False)

    def test_what_is_no_problem(self):
        for index, value in enumerate(NOT_PROBLEMS):
            with self.subTest(index=index):
                self.assertIs(is_problem(value), False)

    def test_what_is_no_rule(self):
        for index, rule in enumerate(NOT_RULES):
            with self.subTest(index=index):
                for rules in ((rule,), (RULE, rule), (rule, RULE), (*(RULE,) * 10, rule, *(RULE,) * 9)):
                    self.assertIs(is_problem((4, rules)), False)


class AllowedTest(unittest.TestCase):
    def test_examples(self):
        self.assertEqual(allowed(EXAMPLE, 1, 2), ("before", "beside"))
        self.assertEqual(allowed(EXAMPLE, 1, 0), AFTER)
        self.assertEqual(allowed(EXAMPLE, 0, 2), WORDS)

    def test_nothing_left(self):
        self.assertEqual(allowed(NOTHING_LEFT, 0, 3), ())
        self.assertEqual(allowed(NOTHING_LEFT, 3, 0), ())
        self.assertEqual(allowed(NOTHING_LEFT, 2, 1), BESIDE)

    def test_what_all_rules_list(self):
        for problem in PROBLEMS:
            for (x, y), words in choices(problem).items():
                self.assertEqual(allowed(problem, x, y), in_order(words))

    def test_solution_exactly_if_each_two_tasks_have_an_allowed_relation(self):
        for problem in SMALL[::3]:
            found = {pair: allowed(problem, *pair) for pair in choices(problem)}
            for plan, told in TOLD[problem[0]]:
                self.assertIs(keeps(problem, plan), all(told[pair] in found[pair] for pair in told))


class KeepsTest(unittest.TestCase):
    def test_examples(self):
        self.assertIs(keeps(EXAMPLE, ("then", (0, ("beside", (1, 2))))), True)
        self.assertEqual(broken(EXAMPLE, ("then", (2, 1, 0))), (0, 1))
        self.assertIs(keeps(EXAMPLE, ("then", (2, 1, 0))), False)
        self.assertEqual(broken(EXAMPLE, ("then", (2, 0, 1))), (1,))

    def test_plans(self):
        for problem in (*HAND_MADE, *OF_FOUR[::5], *ALL_OF_THREE[::7]):
            for plan in plans_of_size(problem[0]):
                told = relations_of(plan)
                expected = tuple(index for index, (first, words, second) in enumerate(problem[1])
                                 if told[first, second] not in words)
                self.assertEqual(broken(problem, plan), expected)
                self.assertIs(keeps(problem, plan), expected == ())

    def test_one_task(self):
        self.assertIs(keeps((1, ()), 0), True)
        self.assertEqual(broken((1, ()), 0), ())

    def test_twenty_rules_all_broken(self):
        self.assertEqual(broken(SEVEN, ("then", (6, 5, 4, 3, 2, 1, 0))), tuple(range(20)))
        self.assertEqual(broken(SEVEN, ("then", (0, 1, 2, 3, 4, 6, 5))), ())

    def test_a_rule_that_lists_all_relations_is_kept(self):
        for plan in plans_of_size(4):
            for x, y in permutations(range(4), 2):
                self.assertIs(keeps((4, ((x, WORDS, y),)), plan), True)

    def test_a_further_rule_gives_no_further_solutions(self):
        for problem in SMALL[::5]:
            if problem[0] > 1 and len(problem[1]) < 20:
                for words in LISTS:
                    more = with_rule(problem, 1, words, 0)
                    for plan, _ in TOLD[problem[0]]:
                        self.assertLessEqual(keeps(more, plan), keeps(problem, plan))


class RuleTurnedTest(unittest.TestCase):
    def test_examples(self):
        self.assertEqual(rule_turned(EXAMPLE, 1), (1, ("before", "beside"), 2))
        self.assertEqual(rule_turned(EXAMPLE, 0), (1, AFTER, 0))

    def test_each_list(self):
        problem = (2, tuple((0, words, 1) for words in LISTS))
        for index, words in enumerate(LISTS):
            self.assertEqual(rule_turned(problem, index), (1, turned_words(words), 0))

    def test_kept_by_the_same_plans(self):
        for problem in SMALL[::4]:
            for index, rule in enumerate(problem[1]):
                other = (problem[0], (rule_turned(problem, index),))
                self.assertIs(is_problem(other), True)
                for plan, _ in TOLD[problem[0]]:
                    self.assertIs(keeps(other, plan), keeps((problem[0], (rule,)), plan))

    def test_last_of_twenty_rules(self):
        first, words, second = SEVEN[1][19]
        self.assertEqual(rule_turned(SEVEN, 19), (second, turned_words(words), first))


class GatheredTest(unittest.TestCase):
    def test_examples(self):
        self.assertEqual(gathered(EXAMPLE), (3, ((0, BEFORE, 1), (1, ("before", "beside"), 2))))
        self.assertIsNone(gathered((2, ((0, BEFORE, 1), (1, ("before", "beside"), 0)))))
        self.assertIsNone(gathered(NOTHING_LEFT))
        self.assertEqual(gathered((7, ())), (7, ()))
        self.assertEqual(gathered((2, ((1, WORDS, 0),))), (2, ()))
        self.assertEqual(gathered((1, ())), (1, ()))

    def test_all(self):
        for problem in PROBLEMS:
            found = choices(problem)
            rules = tuple((x, in_order(words), y) for (x, y), words in sorted(found.items())
                          if x < y and len(words) < 3)
            expected = None if any(not words for _, words, _ in rules) else (problem[0], rules)
            self.assertEqual(gathered(problem), expected)

    def test_same_solutions_and_not_more_rules(self):
        for problem in (*SMALL, *OF_FIVE):
            result = gathered(problem)
            if result is None:
                self.assertEqual(kept_plans(problem), [])
            else:
                self.assertEqual(kept_plans(result), kept_plans(problem))
                self.assertLessEqual(len(result[1]), len(problem[1]))

    def test_gathered_again_it_stays(self):
        for problem in PROBLEMS:
            result = gathered(problem)
            if result is not None:
                self.assertIs(is_problem(result), True)
                self.assertEqual(gathered(result), result)


class PartTest(unittest.TestCase):
    def test_examples(self):
        self.assertEqual(part(EXAMPLE, (1, 2)), (2, ((1, ("beside", "after"), 0),)))
        self.assertEqual(part(EXAMPLE, (0, 2)), (2, ()))
        self.assertEqual(part(SHAPE, (1, 2, 3)), (3, ((0, BEFORE, 1), (0, BEFORE, 2), (1, BESIDE, 2))))

    def test_all_tasks_chosen(self):
        for problem in PROBLEMS:
            self.assertEqual(part(problem, tuple(range(problem[0]))), problem)

    def test_one_task_chosen(self):
        for problem in HAND_MADE:
            for task in range(problem[0]):
                self.assertEqual(part(problem, (task,)), (1, ()))

    def test_rules_on_the_chosen_tasks_in_their_sequence(self):
        for problem in (*HAND_MADE, *OF_FOUR[:30], *LARGE[::6]):
            for chosen in sets_of(problem[0]):
                rules = [rule for rule in problem[1] if {rule[0], rule[2]} <= set(chosen)]
                size, result = part(problem, chosen)
                self.assertEqual((size, len(result)), (len(chosen), len(rules)))
                for (first, words, second), rule in zip(result, rules):
                    self.assertEqual((chosen[first], words, chosen[second]), rule)

    def test_restricted_solutions(self):
        for problem in SMALL[::9]:
            for plan in kept_plans(problem)[:30]:
                for chosen in sets_of(problem[0]):
                    self.assertIs(keeps(part(problem, chosen), restricted(plan, chosen)), True)


class TurnedTest(unittest.TestCase):
    def test_examples(self):
        self.assertEqual(turned(EXAMPLE), (3, ((0, AFTER, 1), (2, ("before", "beside"), 1))))
        self.assertEqual(turned((4, ())), (4, ()))

    def test_opposites(self):
        for problem in PROBLEMS:
            rules = tuple((first, turned_words(words), second) for first, words, second in problem[1])
            self.assertEqual(turned(problem), (problem[0], rules))
            self.assertEqual(turned(turned(problem)), problem)

    def test_turned_plans(self):
        for problem in SMALL[::7]:
            for plan in plans_of_size(problem[0])[::3]:
                self.assertIs(keeps(turned(problem), turned_plan(plan)), keeps(problem, plan))


class RenamedTest(unittest.TestCase):
    def test_examples(self):
        self.assertEqual(renamed(EXAMPLE, (2, 0, 1)), (3, ((2, BEFORE, 0), (1, ("beside", "after"), 0))))
        self.assertEqual(renamed((1, ()), (0,)), (1, ()))

    def test_rules(self):
        for problem in (*HAND_MADE, *OF_FOUR[::10]):
            for order in list(permutations(range(problem[0])))[::5]:
                rules = tuple((order[first], words, order[second]) for first, words, second in problem[1])
                self.assertEqual(renamed(problem, order), (problem[0], rules))

    def test_solutions_stay_solutions(self):
        for problem in SMALL[::40]:
            for order in permutations(range(problem[0])):
                for plan, _ in TOLD[problem[0]]:
                    self.assertIs(keeps(renamed(problem, order), renamed_plan(plan, order)), keeps(problem, plan))


class RulesErrorsTest(WrongCase):
    def not_plans(self, size):
        """Values that are no plans for the size: plans for other sizes, too."""
        return (*(plan for plan in MIXED_PLANS if len(tasks_of(plan)) != size), *NOT_PLANS)

    def test_allowed(self):
        for size, rules in (SHAPE, SEVEN):
            self.check_arguments(allowed, ("problem", (size, rules), NOT_PROBLEMS), ("first", 1, not_tasks(size)),
                                 ("second", 3, (*not_tasks(size), 1)))

    def test_one_task_has_no_other_one(self):
        for first, second, name in ((0, 0, "second"), (0, 1, "second"), (1, 0, "first"), (1, 1, "first")):
            self.check_bad(name, allowed, (1, ()), first, second)

    def test_plans(self):
        for function in (keeps, broken):
            self.check_arguments(function, ("problem", SHAPE, NOT_PROBLEMS),
                                 ("plan", ("then", (1, ("beside", (3, 2, 0)))), self.not_plans(4)))
            self.check_arguments(function, ("problem", SEVEN, NOT_PROBLEMS),
                                 ("plan", ("then", (0, 1, 2, 3, 4, 5, 6)), self.not_plans(7)))
            self.check_bad("plan", function, (1, ()), ("then", (0, 1)))
            self.check_bad("plan", function, (2, ()), 0)

    def test_rule_turned(self):
        self.check_arguments(rule_turned, ("problem", SHAPE, NOT_PROBLEMS), ("index", 5, not_tasks(6)))
        self.check_arguments(rule_turned, ("problem", SEVEN, NOT_PROBLEMS), ("index", 19, not_tasks(20)))
        for index in (0, -1, 1, False):
            self.check_bad("index", rule_turned, (3, ()), index)

    def test_gathered_and_turned(self):
        for function in (gathered, turned):
            self.check_arguments(function, ("problem", SHAPE, NOT_PROBLEMS))

    def test_part(self):
        for problem in (RING, SHAPE, SEVEN):
            self.check_arguments(part, ("problem", problem, NOT_PROBLEMS),
                                 ("chosen", (0, 2), ((), *not_ascending(problem[0]))))

    def test_renamed(self):
        self.check_arguments(renamed, ("problem", SHAPE, NOT_PROBLEMS), ("order", (3, 1, 0, 2), not_orders(4)))
        self.check_arguments(renamed, ("problem", SEVEN, NOT_PROBLEMS), ("order", (6, 5, 4, 3, 2, 1, 0), not_orders(7)))

    def test_lists_are_not_modified(self):
        problem = [3, [(0, ["before"], 1)]]
        order = [2, 1, 0]
        self.check_bad("problem", gathered, problem)
        self.check_bad("order", renamed, RING, order)
        self.check_bad("chosen", part, RING, order)
        self.assertEqual((problem, order), ([3, [(0, ["before"], 1)]], [2, 1, 0]))


if __name__ == "__main__":
    unittest.main()
