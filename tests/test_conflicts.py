"""Points 88 to 93: conflicts and removals, and their grounds."""

from itertools import combinations
from unittest import TestCase, main

from thenbeside.conflicts import (accepts_conflict, accepts_removal, conflict_grounds, removal_grounds,
                                  smallest_conflict, smallest_removal, told_conflict)
from thenbeside.dropping import is_possible
from thenbeside.errors import TooLarge
from thenbeside.solving import accepts
from tests.judges import are_right_for_conflict, are_right_for_removal
from tests.kept import Kept, collections_of, left_out
from tests.problems import (AFTER, ALL_OF_THREE, BEFORE, BESIDE, CHAIN, EXAMPLE, HAND_MADE, LARGE, LISTS, NOTHING_LEFT,
                            OF_FOUR, RING, SHAPE, WORDS, by_indexes, drawn, kept_plans, stuck_sets)
from tests.samples import is_normal, sets_of
from tests.wrong import NOT_PROBLEMS, WrongCase, not_ascending

# Problems of one to four tasks with at most eight rules; most of them have no solution, and several conflicts.
PROBLEMS = (*[problem for problem in HAND_MADE if problem[0] < 5], *ALL_OF_THREE[::9],
            *[problem for problem in OF_FOUR if len(problem[1]) < 9][::4],
            *(drawn(seed, 2, 1 + seed % 8, LISTS[:5]) for seed in range(24)),
            *(drawn(seed, 3, 3 + seed % 6, LISTS[:6]) for seed in range(48)),
            *(drawn(seed, 4, 4 + seed % 5, LISTS[:3]) for seed in range(40)),
            (3, RING[1] + ((1, WORDS, 0), (0, ("before", "beside"), 1))), (3, RING[1] + RING[1][:2]),
            (4, RING[1] + ((0, BEFORE, 3), (3, ("beside", "after"), 0), (1, WORDS, 2))))
KEPT = {problem: Kept(problem) for problem in PROBLEMS}
CONTRADICTORY = tuple(problem for problem in PROBLEMS if not kept_plans(problem))
SOLVABLE = tuple(problem for problem in PROBLEMS if kept_plans(problem))
LARGE_CONTRADICTORY = tuple(problem for problem in LARGE if not is_possible(problem, tuple(range(len(problem[1])))))
RING_PLANS = (("then", (1, 2, 0)), ("then", (2, 0, 1)), ("then", (0, 1, 2)))
SIX = tuple((x, BEFORE, (x + 1) % 6) for x in range(6))


class ToldConflictTest(TestCase):
    def test_examples(self):
        self.assertEqual(told_conflict(RING), (0, 1, 2))
        self.assertIsNone(told_conflict(CHAIN))
        self.assertEqual(told_conflict((3, CHAIN[1][:2] + ((2, BEFORE, 0),))), (0, 1, 2))

    def test_what_all_plans_say(self):
        self.assertGreater(len(CONTRADICTORY), 60)
        self.assertGreater(len(SOLVABLE), 60)
        for problem, kept in KEPT.items():
            self.assertEqual(told_conflict(problem), kept.told_conflict())

    def test_is_a_conflict(self):
        for problem in CONTRADICTORY:
            self.assertIn(told_conflict(problem), KEPT[problem].conflicts())

    def test_last_rules_are_left_out_first(self):
        # The first two rules are in conflict, and so are the second one and the third one.
        problem = (2, ((0, BEFORE, 1), (0, BESIDE, 1), (0, BEFORE, 1)))
        self.assertEqual(told_conflict(problem), (0, 1))
        ring = (3, RING[1] + ((0, AFTER, 1),))
        self.assertEqual((told_conflict(ring), smallest_conflict(ring)), ((0, 1, 2), (0, 3)))

    def test_more_rules_than_eight(self):
        self.assertIn(20, [len(problem[1]) for problem in LARGE_CONTRADICTORY])
        for problem in LARGE:
            found = told_conflict(problem)
            self.assertIs(found is None, problem not in LARGE_CONTRADICTORY)
            if found is not None:
                self.assertIs(is_possible(problem, found), False)
                for index in found:
                    self.assertIs(is_possible(problem, left_out(found, index)), True)
                for index in [index for index in range(len(problem[1])) if index not in found]:
                    # The rule was left out as what was left then, and all rules ahead, were not possible without it.
                    ahead = [other for other in range(index)]
                    behind = [other for other in found if other > index]
                    self.assertIs(is_possible(problem, (*ahead, *behind)), False)


class SmallestConflictTest(TestCase):
    def test_examples(self):
        self.assertEqual(smallest_conflict(RING), (0, 1, 2))
        self.assertIsNone(smallest_conflict(CHAIN))
        self.assertIsNone(smallest_conflict((1, ())))
        self.assertEqual(smallest_conflict(SHAPE), (0, 1, 2, 3, 4, 5))

    def test_first_of_those_with_the_fewest_rules(self):
        smaller = 0
        for problem, kept in KEPT.items():
            expected = [*kept.conflicts(), None][0]
            self.assertEqual(smallest_conflict(problem), expected)
            smaller += expected is not None and len(expected) < len(told_conflict(problem))
        self.assertGreater(smaller, 2)

    def test_first_one(self):
        problem = (2, ((0, WORDS, 1), (0, BEFORE, 1), (0, BEFORE, 1), (0, BESIDE, 1), (1, BEFORE, 0)))
        self.assertEqual((smallest_conflict(problem), told_conflict(problem)), ((1, 3), (1, 3)))

    def test_all_of_eight_rules(self):
        for problem in ((6, SIX), (7, tuple((x, BEFORE, (x + 1) % 7) for x in range(7)) + ((0, WORDS, 1),))):
            size, rules = problem
            indexes = tuple(range(size))
            self.assertEqual((smallest_conflict(problem), told_conflict(problem)), (indexes, indexes))
            self.assertEqual(smallest_removal(problem), (0,))


class SmallestRemovalTest(TestCase):
    def test_examples(self):
        self.assertEqual(smallest_removal(RING), (0,))
        self.assertEqual(smallest_removal(CHAIN), ())
        self.assertEqual(smallest_removal((1, ())), ())

    def test_first_of_those_with_the_fewest_rules(self):
        for problem, kept in KEPT.items():
            self.assertEqual(smallest_removal(problem), kept.removals()[0])
        self.assertLessEqual({0, 1, 2, 3}, {len(smallest_removal(problem)) for problem in PROBLEMS})

    def test_empty_exactly_if_there_is_a_solution(self):
        for problem in PROBLEMS:
            self.assertIs(smallest_removal(problem) == (), problem in SOLVABLE)
            self.assertIs(smallest_conflict(problem) is None, problem in SOLVABLE)

    def test_last_rules(self):
        problem = (2, ((0, BEFORE, 1), (0, BEFORE, 1), (0, BEFORE, 1), (0, WORDS, 1), (1, BEFORE, 0)))
        self.assertEqual(smallest_removal(problem), (4,))
        self.assertIs(accepts_removal(problem, (0, 1, 2), removal_grounds(problem, (0, 1, 2))), True)


class AcrossTest(TestCase):
    """Point 91."""

    def test_each_removal_has_an_index_in_common_with_each_conflict(self):
        for problem in CONTRADICTORY:
            found = [removal for removal in collections_of(problem) if removal_grounds(problem, removal) is not None]
            for conflict in collections_of(problem):
                if conflict_grounds(problem, conflict) is not None:
                    for removal in (*found, smallest_removal(problem)):
                        self.assertTrue(set(removal) & set(conflict))

    def test_collection_that_is_not_possible_contains_a_conflict(self):
        for problem in CONTRADICTORY[::2]:
            for collection in collections_of(problem):
                if not is_possible(problem, collection):
                    within = told_conflict(by_indexes(problem, collection))
                    conflict = tuple(collection[at] for at in within)
                    self.assertIs(accepts_conflict(problem, conflict, conflict_grounds(problem, conflict)), True)

    def test_rule_that_lists_all_relations(self):
        for problem in CONTRADICTORY[::2]:
            size, rules = problem
            for at in (0, len(rules) // 2, len(rules)):
                if len(rules) < 8:
                    more = (size, (*rules[:at], (1, WORDS, 0), *rules[at:]))
                    for found in (told_conflict(more), smallest_conflict(more), smallest_removal(more)):
                        self.assertNotIn(at, found)
                    for collection in collections_of(more):
                        if at in collection:
                            self.assertIsNone(conflict_grounds(more, collection))
                            self.assertIsNone(removal_grounds(more, collection))


class GroundsTest(TestCase):
    def check_conflict(self, problem, collection, expected):
        """Grounds are returned exactly if they are expected; they are right, accepted, and have normal plans."""
        value = conflict_grounds(problem, collection)
        self.assertIs(value is not None, expected)
        if expected:
            self.assertTrue(are_right_for_conflict(problem, collection, value))
            self.assertIs(accepts_conflict(problem, collection, value), True)
            self.assertTrue(all(is_normal(plan) for plan in value[1]))
            self.assertIs(accepts(by_indexes(problem, collection), ("set", value[0])), True)

    def check_removal(self, problem, collection, expected):
        """Grounds are returned exactly if they are expected; they are right, accepted, and have a normal plan."""
        value = removal_grounds(problem, collection)
        self.assertIs(value is not None, expected)
        if expected:
            self.assertTrue(are_right_for_removal(problem, collection, value))
            self.assertIs(accepts_removal(problem, collection, value), True)
            self.assertTrue(is_normal(value[0]))

    def test_all_collections(self):
        for problem, kept in KEPT.items():
            for collection in collections_of(problem):
                self.check_conflict(problem, collection, kept.is_conflict(collection))
                self.check_removal(problem, collection, kept.is_removal(collection))
            for collection in kept.conflicts():
                self.check_conflict(problem, collection, True)
            for collection in kept.removals():
                self.check_removal(problem, collection, True)

    def test_no_rules(self):
        for size in range(1, 8):
            self.assertIsNone(conflict_grounds((size, ()), ()))
            value = removal_grounds((size, ()), ())
            self.assertEqual(value[1], ())
            self.assertIs(accepts_removal((size, ()), (), value), True)

    def test_large_problems(self):
        for problem in LARGE:
            indexes = tuple(range(len(problem[1])))
            conflict = told_conflict(problem)
            self.check_conflict(problem, indexes, conflict == indexes)
            self.check_removal(problem, (), conflict is None)
            if conflict is not None:
                self.check_conflict(problem, conflict, True)
                self.check_removal(problem, (), False)

    def test_rule_is_put_in_at_its_place(self):
        # Grounds for a removal tell sets in the order of the indexes, though the rules stand in other places then.
        problem = (3, ((0, BEFORE, 1), (0, BESIDE, 2), (1, BEFORE, 0), (2, AFTER, 0), (0, BESIDE, 1)))
        value = removal_grounds(problem, (1, 2, 4))
        self.assertEqual(value[1], ((0, 2), (0, 1), (0, 1)))
        self.assertIs(accepts_removal(problem, (1, 2, 4), value), True)
        self.assertIs(accepts_removal(problem, (1, 2, 4), (value[0], ((0, 1), (0, 2), (0, 1)))), False)


class JudgesTest(WrongCase):
    def test_examples(self):
        self.assertIs(accepts_conflict(RING, (0, 1, 2), ((0, 1, 2), RING_PLANS)), True)
        self.assertIs(accepts_removal(RING, (0,), (("then", (1, 2, 0)), ((0, 1, 2),))), True)
        self.assertIs(accepts_removal(RING, (0, 1), (("then", (1, 2, 0)), ((0, 1, 2),))), False)

    def test_plans_in_another_sequence(self):
        for plans in ((RING_PLANS[1], RING_PLANS[0], RING_PLANS[2]), RING_PLANS[::-1], RING_PLANS[:1] * 3,
                      RING_PLANS[:2], (*RING_PLANS, RING_PLANS[0]), ()):
            self.assertIs(accepts_conflict(RING, (0, 1, 2), ((0, 1, 2), plans)), False)

    def test_plans_that_are_not_normal(self):
        problem = (3, ((0, BEFORE, 1), (1, BEFORE, 0)))
        plans = (("then", (1, ("beside", (2, 0)))), ("then", (("beside", (2, 0)), 1)))
        self.assertIs(accepts_conflict(problem, (0, 1), ((0, 1), plans)), True)
        self.assertIs(accepts_conflict(problem, (0, 1), ((0, 1), plans[::-1])), False)
        self.assertIs(accepts_removal(problem, (0,), (plans[0], ((0, 1),))), True)
        self.assertIs(accepts_removal(problem, (1,), (plans[0], ((0, 1),))), False)
        self.assertIs(accepts_removal(problem, (1,), (plans[1], ((0, 1),))), True)

    def test_all_sets(self):
        for problem in (RING, *CONTRADICTORY[::8]):
            conflict = KEPT[problem].conflicts()[-1]
            removal = KEPT[problem].removals()[-1]
            _, plans = conflict_grounds(problem, conflict)
            plan, sets = removal_grounds(problem, removal)
            rest = [index for index in range(len(problem[1])) if index not in removal]
            for chosen in sets_of(problem[0], 0):
                expected = chosen in stuck_sets(by_indexes(problem, conflict))
                self.assertIs(accepts_conflict(problem, conflict, (chosen, plans)), expected)
                for at, index in enumerate(removal):
                    more = by_indexes(problem, sorted([*rest, index]))
                    value = (plan, (*sets[:at], chosen, *sets[at + 1:]))
                    self.assertIs(accepts_removal(problem, removal, value), chosen in stuck_sets(more))

    def test_accepted_only_for_conflicts_and_removals(self):
        for problem in PROBLEMS[::3]:
            kept = KEPT[problem]
            values = [conflict_grounds(problem, conflict) for conflict in kept.conflicts()]
            others = [removal_grounds(problem, removal) for removal in kept.removals()]
            for collection in collections_of(problem):
                for value in (*values, *others, ((), ()), ((0, 1), ())):
                    for judge, right, holds in (
                            (accepts_conflict, are_right_for_conflict, kept.is_conflict),
                            (accepts_removal, are_right_for_removal, kept.is_removal)):
                        accepted = judge(problem, collection, value)
                        self.assertIs(accepted, right(problem, collection, value))
                        self.assertTrue(holds(collection) or not accepted)

    def test_values_of_every_kind(self):
        for problem, collection in ((RING, (0, 1, 2)), (RING, ()), (RING, (0,)), (EXAMPLE, ()), ((1, ()), ()),
                                    (NOTHING_LEFT, (0, 1)), (drawn(3, 7, 20), tuple(range(20)))):
            self.check_refuses(accepts_conflict, problem, collection)
            self.check_refuses(accepts_removal, problem, collection)


class ConflictsErrorsTest(WrongCase):
    def test_problem_alone(self):
        for function in (told_conflict, smallest_conflict, smallest_removal):
            for problem in (CHAIN, RING):
                self.check_arguments(function, ("problem", problem, NOT_PROBLEMS))

    def test_collection(self):
        for function in (conflict_grounds, removal_grounds):
            for problem in (CHAIN, RING, drawn(9, 7, 20)):
                self.check_arguments(function, ("problem", problem, NOT_PROBLEMS),
                                     ("collection", (1, 2), not_ascending(len(problem[1]))))
            for collection in ((0,), (False,), [], None, 0, ""):
                self.check_bad("collection", function, (3, ()), collection)

    def test_judges(self):
        for function in (accepts_conflict, accepts_removal):
            for value in (((0, 1, 2), RING_PLANS), (RING_PLANS[0], ((0, 1, 2),)), None):
                def judge(problem, collection, held=value, judged=function):
                    return judged(problem, collection, held)
                for problem in (CHAIN, RING):
                    self.check_arguments(judge, ("problem", problem, NOT_PROBLEMS),
                                         ("collection", (0, 1), not_ascending(3)))

    def check_too_large(self, function, problem):
        """The function refuses a problem with more than 8 rules."""
        with self.assertRaises(TooLarge) as caught:
            function(problem)
        self.assertEqual(caught.exception.what, "rules")

    def test_eight_rules_and_nine(self):
        for size in (2, 4, 7):
            rules = ((0, BEFORE, 1),) * 7 + ((1, BEFORE, 0),) + ((0, BEFORE, 1),) * 12
            self.assertEqual(smallest_conflict((size, rules[:8])), (0, 7))
            self.assertEqual(smallest_removal((size, rules[:8])), (7,))
            self.assertIsNone(smallest_conflict((size, rules[:7])))
            for many in (9, 10, 19, 20):
                for function in (smallest_conflict, smallest_removal):
                    self.check_too_large(function, (size, rules[:many]))
                    # That there is a solution changes nothing.
                    self.check_too_large(function, (size, rules[:1] * many))
                self.assertEqual(told_conflict((size, rules[:many])), (0, 7))
                self.assertIsNone(told_conflict((size, rules[:1] * many)))

    def test_wrong_problem_comes_ahead_of_too_large(self):
        for function in (told_conflict, smallest_conflict, smallest_removal):
            for many in (8, 9, 19, 20):
                self.check_bad("problem", function, (3, RING[1][:1] * many + ((0, BEFORE, 3),)))
            for many in (21, 100):
                self.check_bad("problem", function, (3, RING[1][:1] * many))

    def test_lists_are_not_modified(self):
        problem = [3, [(0, ["before"], 1)]]
        collection = [1, 0]
        value = [[0, 1, 2], [[0, 1, 2]]]
        self.check_bad("problem", told_conflict, problem)
        self.check_bad("collection", conflict_grounds, RING, collection)
        self.assertIs(accepts_conflict(RING, (0, 1, 2), value), False)
        self.assertIs(accepts_removal(RING, (0,), value), False)
        self.assertEqual((problem, collection, value),
                         ([3, [(0, ["before"], 1)]], [1, 0], [[0, 1, 2], [[0, 1, 2]]]))

    def test_same_results_again(self):
        for problem in CONTRADICTORY[::5]:
            conflict = told_conflict(problem)
            removal = smallest_removal(problem)
            self.assertEqual(conflict_grounds(problem, conflict), conflict_grounds(problem, conflict))
            self.assertEqual(removal_grounds(problem, removal), removal_grounds(problem, removal))
            for pair in combinations((conflict, removal, smallest_conflict(problem)), 2):
                for item in pair:
                    self.assertIsInstance(item, tuple)


if __name__ == "__main__":
    main()
