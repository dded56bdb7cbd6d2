"""Points 47 and 50: grounds that a set is stuck."""

import unittest
from itertools import combinations, permutations, product

from thenbeside.grounds import accepts_grounds, grounds_for
from thenbeside.sticking import is_stuck
from tests.problems import (ALL_OF_THREE, BEFORE, BESIDE, HAND_MADE, LARGE, LISTS, OF_FIVE, OF_FOUR, RING, SHAPE,
                            SMALL, choices, drawn, stuck_sets, with_rule)
from tests.samples import sets_of
from tests.wrong import ANY_VALUES, NOT_PROBLEMS, WrongCase, deep, not_ascending, shared

PROBLEMS = (*SMALL, *OF_FIVE, *LARGE[::3])
NONE_LEFT = (2, ((0, BEFORE, 1), (0, BESIDE, 1)))
TWO = (((0, 1),), ((0, 1),), ((1, 0),))
# For the ring of three tasks: ties between all; 0 hinders 2, 2 hinders 1, 1 hinders 0.
OF_RING = (((0, 1), (1, 2)), ((0, 2), (2, 1)), ((1, 0), (2, 1)))


def is_right(problem, chosen, value):
    """Whether pairs, three tuples of them, are grounds by the words of the document."""
    found = choices(problem)
    for which, pairs in enumerate(value):
        met = {min(chosen)}
        if len(pairs) != len(chosen) - 1:
            return False
        for x, y in pairs:
            known, new = (y, x) if which == 2 else (x, y)
            if known not in met or new in met or new not in chosen:
                return False
            if ("beside" if which == 0 else "before") in found[x, y]:
                return False
            met.add(new)
    return len(chosen) > 1


class GroundsForTest(unittest.TestCase):
    def test_examples(self):
        self.assertIs(accepts_grounds(SHAPE, (0, 1, 2, 3), grounds_for(SHAPE, (0, 1, 2, 3))), True)
        self.assertIsNone(grounds_for(SHAPE, (0, 1, 2)))
        self.assertEqual(grounds_for(NONE_LEFT, (0, 1)), TWO)

    def test_accepted_exactly_for_stuck_sets(self):
        for problem in PROBLEMS:
            stuck = stuck_sets(problem)
            for chosen in sets_of(problem[0]):
                value = grounds_for(problem, chosen)
                self.assertIs(value is None, chosen not in stuck)
                if value is not None:
                    self.assertTrue(is_right(problem, chosen, value))
                    self.assertIs(accepts_grounds(problem, chosen, value), True)

    def test_form(self):
        for problem in (RING, SHAPE, HAND_MADE[-1], *OF_FOUR):
            for chosen in stuck_sets(problem):
                value = grounds_for(problem, chosen)
                self.assertEqual([len(pairs) for pairs in value], [len(chosen) - 1] * 3)
                for kind in (value, *value, *(pair for pairs in value for pair in pairs)):
                    self.assertIsInstance(kind, tuple)

    def test_seven_stuck_tasks(self):
        ring = (7, tuple((x, BEFORE, (x + 1) % 7) for x in range(7)))
        tasks = tuple(range(7))
        self.assertIs(accepts_grounds(ring, tasks, grounds_for(ring, tasks)), True)
        for chosen in sets_of(7)[:-1]:
            self.assertIsNone(grounds_for(ring, chosen))


class AcceptsGroundsTest(WrongCase):
    def test_examples(self):
        self.assertIs(accepts_grounds(NONE_LEFT, (0, 1), TWO), True)
        self.assertIs(accepts_grounds(RING, (0, 1, 2), OF_RING), True)
        self.assertIs(accepts_grounds(RING, (0, 1, 2), (((0, 2), (0, 1)), *OF_RING[1:])), True)

    def test_all_grounds_for_two_tasks(self):
        pairs = list(product(range(3), repeat=2))
        for words in LISTS:
            rule = (0, words, 1)
            for problem in ((3, (rule,)), (3, (rule, (1, words, 0))), (3, (rule, (0, BESIDE, 1)))):
                for value in product(pairs, repeat=3):
                    value = tuple((pair,) for pair in value)
                    if all(pair[0][0] != pair[0][1] for pair in value):
                        self.assertIs(accepts_grounds(problem, (0, 1), value), is_right(problem, (0, 1), value))
                    else:
                        self.assertIs(accepts_grounds(problem, (0, 1), value), False)

    def test_all_pairs_for_three_tasks(self):
        pairs = list(permutations(range(3), 2))
        for problem in (RING, *ALL_OF_THREE[::20]):
            whole = grounds_for(problem, (0, 1, 2)) or OF_RING
            for which in range(3):
                for two in product(pairs, repeat=2):
                    value = (*whole[:which], two, *whole[which + 1:])
                    self.assertIs(accepts_grounds(problem, (0, 1, 2), value), is_right(problem, (0, 1, 2), value))

    def test_accepted_grounds_are_for_stuck_sets_only(self):
        for problem in ALL_OF_THREE:
            stuck = stuck_sets(problem)
            for value in (TWO, OF_RING, (OF_RING[0], OF_RING[2], OF_RING[1])):
                for chosen in sets_of(3, 2):
                    if accepts_grounds(problem, chosen, value):
                        self.assertIn(chosen, stuck)

    def test_pair_too_few_or_too_many(self):
        for problem, chosen, value in self.right_grounds():
            for which, pairs in enumerate(value):
                for other in (pairs[:-1], pairs[1:], (*pairs, pairs[-1]), (*pairs, (chosen[0], chosen[1])), ()):
                    wrong = (*value[:which], other, *value[which + 1:])
                    self.assertIs(accepts_grounds(problem, chosen, wrong), False)

    def test_pairs_exchanged_or_turned(self):
        for problem, chosen, value in self.right_grounds():
            for which, pairs in enumerate(value):
                for at, pair in enumerate(pairs):
                    self.check_changed(problem, chosen, value, which, (*pairs[:at], pair[::-1], *pairs[at + 1:]))
                for at, other in combinations(range(len(pairs)), 2):
                    row = list(pairs)
                    row[at], row[other] = row[other], row[at]
                    self.check_changed(problem, chosen, value, which, tuple(row))
            for order in permutations(value):
                self.assertIs(accepts_grounds(problem, chosen, order), is_right(problem, chosen, order))

    def test_turned_first_pair_is_refused(self):
        for which in range(3):
            wrong = (*OF_RING[:which], (OF_RING[which][0][::-1], OF_RING[which][1]), *OF_RING[which + 1:])
            self.assertIs(accepts_grounds(RING, (0, 1, 2), wrong), False)
        self.assertIs(accepts_grounds(RING, (0, 1, 2), (OF_RING[0], OF_RING[1][::-1], OF_RING[2])), False)

    def test_a_task_of_a_pair_that_is_not_chosen(self):
        problem = (4, RING[1] + ((0, BEFORE, 3), (3, BEFORE, 1), (2, BEFORE, 3), (3, BEFORE, 0)))
        self.assertIs(accepts_grounds(problem, (0, 1, 2), OF_RING), True)
        for which in range(3):
            for at in range(2):
                for pair in ((0, 3), (3, 0), (1, 3), (3, 1), (2, 3), (3, 2)):
                    pairs = (*OF_RING[which][:at], pair, *OF_RING[which][at + 1:])
                    wrong = (*OF_RING[:which], pairs, *OF_RING[which + 1:])
                    self.assertIs(accepts_grounds(problem, (0, 1, 2), wrong), False)

    def test_one_task(self):
        for problem in HAND_MADE:
            for task in range(problem[0]):
                for value in (((), (), ()), (((task, task),),) * 3, TWO, (), None):
                    self.assertIs(accepts_grounds(problem, (task,), value), False)

    def test_items_that_are_no_tasks(self):
        for item in (True, False, None, "0", 0.0, 1.0, 2, -1, 10 ** 30, (0,), [0], (), deep(5000)):
            for which in range(3):
                for at in range(2):
                    pair = list(TWO[which][0])
                    pair[at] = item
                    wrong = (*TWO[:which], (tuple(pair),), *TWO[which + 1:])
                    self.assertIs(accepts_grounds(NONE_LEFT, (0, 1), wrong), False)

    def test_one_pair_of_several_that_is_none(self):
        for which in range(3):
            for at in range(2):
                x, y = OF_RING[which][at]
                for pair in ([x, y], (x, y, 0), (float(x), y), (x, float(y)), (x == 1, y) if x < 2 else None,
                             (x, y == 1) if y < 2 else None, str(x) + str(y), {x: 0, y: 0}):
                    pairs = (*OF_RING[which][:at], pair, *OF_RING[which][at + 1:])
                    wrong = (*OF_RING[:which], pairs, *OF_RING[which + 1:])
                    self.assertIs(accepts_grounds(RING, (0, 1, 2), wrong), False)

    def test_other_kinds_in_the_places_of_tuples(self):
        for which in range(3):
            pair = TWO[which][0]
            for pairs in ([pair], list(pair), pair, (list(pair),), ((*pair, 0),), (pair[:1],), ((),), None, "01",
                          ("01",), {pair: 0}, ([pair],), ((pair,),), deep(5000), shared(100), (deep(5000),)):
                wrong = (*TWO[:which], pairs, *TWO[which + 1:])
                self.assertIs(accepts_grounds(NONE_LEFT, (0, 1), wrong), False)
        for value in (list(TWO), TWO[:2], (*TWO, TWO[0]), TWO[:1], (TWO,)):
            self.assertIs(accepts_grounds(NONE_LEFT, (0, 1), value), False)

    def test_values_of_every_kind(self):
        for problem, chosen in ((SHAPE, (0, 1, 2, 3)), (RING, (0, 1, 2)), (NONE_LEFT, (0, 1)), ((1, ()), (0,)),
                                ((7, ()), (0, 1))):
            self.check_refuses(accepts_grounds, problem, chosen)

    def test_grounds_stay_with_further_rules(self):
        for problem, chosen, value in self.right_grounds():
            if len(problem[1]) < 20:
                self.assertIs(accepts_grounds(with_rule(problem, 1, BESIDE, 0), chosen, value), True)

    def right_grounds(self):
        """Grounds that are right: each time a problem, a stuck set of it, and the grounds."""
        for problem in (NONE_LEFT, RING, SHAPE, *OF_FOUR[::6], *OF_FIVE[::3], *LARGE[::5]):
            for chosen in stuck_sets(problem)[:6]:
                yield problem, chosen, grounds_for(problem, chosen)

    def check_changed(self, problem, chosen, value, which, pairs):
        """Grounds with other pairs in one place are accepted exactly if they are right."""
        other = (*value[:which], pairs, *value[which + 1:])
        self.assertIs(accepts_grounds(problem, chosen, other), is_right(problem, chosen, other))


class GroundsErrorsTest(WrongCase):
    def test_grounds_for(self):
        for problem in (RING, SHAPE, drawn(4, 7, 20)):
            self.check_arguments(grounds_for, ("problem", problem, NOT_PROBLEMS),
                                 ("chosen", (1, 2), ((), *not_ascending(problem[0]))))
            self.assertIs(is_stuck(problem, (2,)), False)
            self.assertIsNone(grounds_for(problem, (2,)))

    def test_accepts_grounds(self):
        for value in (OF_RING, ((), (), ()), *ANY_VALUES[::9]):
            for index, problem in enumerate(NOT_PROBLEMS):
                with self.subTest(index=index):
                    self.check_bad("problem", accepts_grounds, problem, (0, 1, 2), value)
                    self.check_bad("problem", accepts_grounds, problem, (), value)
            for index, chosen in enumerate(((), *not_ascending(4))):
                with self.subTest(index=index):
                    self.check_bad("chosen", accepts_grounds, SHAPE, chosen, value)

    def test_lists_are_not_modified(self):
        chosen = [1, 0]
        value = [[[0, 1]], [[0, 1]], [[1, 0]]]
        self.check_bad("chosen", grounds_for, NONE_LEFT, chosen)
        self.assertIs(accepts_grounds(NONE_LEFT, (0, 1), value), False)
        self.assertEqual((chosen, value), ([1, 0], [[[0, 1]], [[0, 1]], [[1, 0]]]))


if __name__ == "__main__":
    unittest.main()
