"""Points 94 to 98 and 102 to 104: starts, lengths, chains and slacks."""

import unittest

from thenbeside.plans import is_plan, turned
from thenbeside.times import accepts_length, length, length_grounds, slacks, starts, told_chain
from tests.judges import is_right_chain, is_right_length
from tests.samples import MIXED_PLANS, TIMED_PLANS, drawn_plan, relations_of, sets_of, tasks_of
from tests.wrong import NOT_INTEGERS, NOT_PLANS, NOT_TUPLES, WrongCase, deep

PLAN = ("then", (0, ("beside", (1, ("then", (2, 3))))))
DURATIONS = (2, 5, 1, 3)
SEVEN = ("beside", (6, 5, ("then", (4, 3, 2)), 1, 0))


class Chains:
    """All chains of a plan, found among all sets of its tasks, and what follows from them."""

    def __init__(self, plan, durations):
        told = relations_of(plan)
        self.durations = durations
        self.all = []
        for chosen in sets_of(len(durations)):
            if all(told[x, y] != "beside" for x in chosen for y in chosen if x != y):
                many_ahead = {x: sum(told[y, x] == "before" for y in chosen if y != x) for x in chosen}
                self.all.append(tuple(sorted(chosen, key=many_ahead.get)))

    def lasting(self, chain):
        """How long the chain lasts."""
        return sum(self.durations[task] for task in chain)

    def start(self, task):
        """When the task begins: the longest chain that ends with it, without itself, has ended."""
        return max(self.lasting(chain) for chain in self.all if chain[-1] == task) - self.durations[task]

    def length(self):
        """How long the longest chain lasts."""
        return max(self.lasting(chain) for chain in self.all)

    def slack(self, task):
        """What the longest chain with the task in it lasts less than the longest one."""
        return self.length() - max(self.lasting(chain) for chain in self.all if task in chain)

    def told(self):
        """The first one of the longest chains."""
        return min(chain for chain in self.all if self.lasting(chain) == self.length())


CHAINS = [(plan, durations, Chains(plan, durations)) for plan, durations in TIMED_PLANS]


def fit(plan, durations, times):
    """Whether each task begins when all tasks before it have ended, or later, and none ahead of 0."""
    return min(times) >= 0 and all(times[x] + durations[x] <= times[y]
                                   for (x, y), word in relations_of(plan).items() if word == "before")


def end(durations, times):
    """When the last task ends."""
    return max(time + lasting for time, lasting in zip(times, durations))


class StartsTest(unittest.TestCase):
    def test_examples(self):
        self.assertEqual(starts(PLAN, DURATIONS), (0, 2, 2, 3))
        self.assertEqual(starts(0, (1,)), (0,))
        self.assertEqual(starts(0, (99,)), (0,))
        self.assertEqual(starts(("then", (1, 0)), (1, 99)), (99, 0))
        self.assertEqual(starts(("beside", (1, 0)), (1, 99)), (0, 0))

    def test_plans_are_of_every_size(self):
        self.assertEqual({len(durations) for _, durations in TIMED_PLANS}, set(range(1, 8)))
        self.assertTrue(all(is_plan(plan, len(durations)) for plan, durations in TIMED_PLANS))
        self.assertLessEqual({1, 2, 3, 50, 99}, {lasting for _, durations in TIMED_PLANS for lasting in durations})

    def test_what_all_chains_say(self):
        for plan, durations, chains in CHAINS:
            expected = tuple(chains.start(task) for task in range(len(durations)))
            self.assertEqual(starts(plan, durations), expected)

    def test_fit_and_are_least(self):
        for plan, durations in TIMED_PLANS:
            times = starts(plan, durations)
            self.assertTrue(fit(plan, durations, times))
            for task in range(len(times)):
                earlier = (*times[:task], times[task] - 1, *times[task + 1:])
                self.assertFalse(fit(plan, durations, earlier))

    def test_each_task_begins_at_0_or_with_an_end(self):
        for plan, durations in TIMED_PLANS[::5]:
            times = starts(plan, durations)
            ends = [time + lasting for time, lasting in zip(times, durations)]
            self.assertTrue(all(time == 0 or time in ends for time in times))


class LengthTest(unittest.TestCase):
    def test_examples(self):
        self.assertEqual(length(PLAN, DURATIONS), 7)
        self.assertEqual(length(0, (1,)), 1)
        self.assertEqual(length(0, (99,)), 99)
        self.assertEqual(length(("then", tuple(range(7))), (99,) * 7), 693)
        self.assertEqual(length(("beside", tuple(range(7))), (99,) * 7), 99)
        self.assertEqual(length(("then", tuple(range(7))), (1,) * 7), 7)

    def test_what_all_chains_say(self):
        for plan, durations, chains in CHAINS:
            self.assertEqual(length(plan, durations), chains.length())
            self.assertEqual(length(plan, durations), end(durations, starts(plan, durations)))

    def test_turned(self):
        for plan, durations in TIMED_PLANS:
            whole = length(plan, durations)
            self.assertEqual(length(turned(plan), durations), whole)
            late = [time + slack for time, slack in zip(starts(plan, durations), slacks(plan, durations))]
            expected = tuple(whole - time - lasting for time, lasting in zip(late, durations))
            self.assertEqual(starts(turned(plan), durations), expected)

    def test_multiplied(self):
        for plan, durations in TIMED_PLANS:
            many = 99 // max(durations)
            longer = tuple(many * lasting for lasting in durations)
            self.assertEqual(length(plan, longer), many * length(plan, durations))
            self.assertEqual(starts(plan, longer), tuple(many * time for time in starts(plan, durations)))
            self.assertEqual(slacks(plan, longer), tuple(many * slack for slack in slacks(plan, durations)))
            self.assertEqual(told_chain(plan, longer), told_chain(plan, durations))


class SlacksTest(unittest.TestCase):
    def test_examples(self):
        self.assertEqual(slacks(PLAN, DURATIONS), (0, 0, 1, 1))
        self.assertEqual(slacks(0, (5,)), (0,))
        self.assertEqual(slacks(("beside", (0, 1)), (1, 99)), (98, 0))

    def test_what_all_chains_say(self):
        for plan, durations, chains in CHAINS:
            self.assertEqual(slacks(plan, durations), tuple(chains.slack(task) for task in range(len(durations))))

    def test_0_exactly_in_chains_that_last_as_long_as_the_plan(self):
        for plan, durations, chains in CHAINS:
            longest = [chain for chain in chains.all if chains.lasting(chain) == chains.length()]
            for task, slack in enumerate(slacks(plan, durations)):
                self.assertIs(slack == 0, any(task in chain for chain in longest))

    def test_so_much_later_and_not_more(self):
        for plan, durations in TIMED_PLANS:
            early, later, whole = starts(plan, durations), slacks(plan, durations), length(plan, durations)
            self.assertTrue(fit(plan, durations, [time + slack for time, slack in zip(early, later)]))
            for task in range(len(durations)):
                for more in (0, 1):
                    # The task alone begins later, and what is behind it as soon as it can then.
                    times = list(early)
                    times[task] += later[task] + more
                    told = relations_of(plan)
                    for other in sorted(range(len(times)), key=early.__getitem__):
                        ahead = [times[x] + durations[x] for x in range(len(times))
                                 if x != other and told[x, other] == "before"]
                        times[other] = max([times[other], *ahead])
                    self.assertTrue(fit(plan, durations, times))
                    self.assertIs(end(durations, times) > whole, more == 1)


class ToldChainTest(unittest.TestCase):
    def test_examples(self):
        self.assertEqual(told_chain(PLAN, DURATIONS), (0, 1))
        self.assertEqual(told_chain(PLAN, (2, 4, 1, 3)), (0, 1))
        self.assertEqual(told_chain(PLAN, (2, 3, 1, 3)), (0, 2, 3))
        self.assertEqual(told_chain(0, (9,)), (0,))
        self.assertEqual(told_chain(SEVEN, (3, 3, 1, 1, 1, 3, 3)), (0,))
        self.assertEqual(told_chain(("beside", (("then", (2, 0)), ("then", (1, 3)))), (1, 1, 1, 1)), (1, 3))

    def test_what_all_chains_say(self):
        for plan, durations, chains in CHAINS:
            self.assertEqual(told_chain(plan, durations), chains.told())

    def test_no_chain_lasts_longer(self):
        for plan, durations, chains in CHAINS:
            self.assertTrue(is_right_chain(plan, told_chain(plan, durations)))
            for chain in chains.all:
                self.assertLessEqual(chains.lasting(chain), length(plan, durations))


class LengthGroundsTest(unittest.TestCase):
    def test_starts_and_told_chain(self):
        for plan, durations in TIMED_PLANS:
            value = length_grounds(plan, durations)
            self.assertEqual(value, (starts(plan, durations), told_chain(plan, durations)))
            self.assertEqual([type(item) for item in (value, *value)], [tuple] * 3)
            self.assertIs(accepts_length(plan, durations, length(plan, durations), value), True)


class AcceptsLengthTest(WrongCase):
    def test_examples(self):
        self.assertIs(accepts_length(PLAN, DURATIONS, 7, ((0, 2, 3, 4), (0, 1))), True)
        self.assertIs(accepts_length(PLAN, DURATIONS, 7, ((0, 2, 3, 5), (0, 1))), False)

    def test_numbers(self):
        for plan, durations in TIMED_PLANS[::11]:
            whole = length(plan, durations)
            value = length_grounds(plan, durations)
            late = tuple(time + slack for time, slack in zip(value[0], slacks(plan, durations)))
            for number in {0, 1, whole - 1, whole, whole + 1, 999, 1000}:
                for times in (value[0], late):
                    accepted = accepts_length(plan, durations, number, (times, value[1]))
                    self.assertIs(accepted, number == whole)

    def test_all_chains(self):
        for plan, durations, chains in CHAINS[::4]:
            times = starts(plan, durations)
            for chain in (*chains.all, *(chain[::-1] for chain in chains.all), *sets_of(len(durations), 0)):
                for number in {length(plan, durations), chains.lasting(chain)}:
                    expected = is_right_length(plan, durations, number, (times, chain))
                    self.assertIs(accepts_length(plan, durations, number, (times, chain)), expected)
                    self.assertTrue(number == length(plan, durations) or not expected)

    def test_all_times_of_small_plans(self):
        for plan, durations in ((("then", (1, 0)), (2, 1)), (("beside", (1, 0)), (1, 3)), (("then", (0, 1)), (1, 1))):
            found = 0
            for number in range(6):
                for first in range(-1, 6):
                    for second in range(-1, 6):
                        for chain in ((0,), (1,), (0, 1), (1, 0)):
                            value = ((first, second), chain)
                            expected = is_right_length(plan, durations, number, value)
                            self.assertIs(accepts_length(plan, durations, number, value), expected)
                            found += expected
            self.assertGreater(found, 0)

    def test_times_that_are_not_right(self):
        for times in ((0, 2, 2, 2), (0, 1, 2, 3), (1, 2, 2, 3), (0, 2, 1, 3), (0, 3, 2, 3), (-1, 2, 2, 3), (0, 2, 2),
                      (0, 2, 2, 3, 0), (), (False, 2, 2, 3), (0, 2, 2.0, 3), (0, 2, None, 3), [0, 2, 2, 3], "0223",
                      (0, 2, 2, 10 ** 30), ((0,), 2, 2, 3), None, 0, {0: 0}):
            self.assertIs(accepts_length(PLAN, DURATIONS, 7, (times, (0, 1))), False)

    def test_chains_that_are_not_right(self):
        for chain in ((), (0,), (1,), (1, 0), (0, 2), (0, 2, 3), (0, 1, 1), (0, 0, 1), (0, 1, 2), (0, 1, 4), (0, True),
                      (False, 1), (0, 1.0), (0, None), [0, 1], "01", ((0, 1),), None, 0, (0, 1) * 50000, (-4, 1),
                      (0,) * 100000, deep(5000), (deep(5000),)):
            self.assertIs(accepts_length(PLAN, DURATIONS, 7, ((0, 2, 2, 3), chain)), False)
        self.assertIs(accepts_length(PLAN, (2, 4, 1, 3), 6, ((0, 2, 2, 3), (0, 2, 3))), True)

    def test_one_task(self):
        for lasting in (1, 50, 99):
            for number in range(101):
                self.assertIs(accepts_length(0, (lasting,), number, ((0,), (0,))), number == lasting)
                self.assertIs(accepts_length(0, (lasting,), number, ((1,), (0,))), False)

    def test_values_of_every_kind(self):
        for plan, durations, number in ((PLAN, DURATIONS, 7), (0, (1,), 1), (0, (1,), 0), (SEVEN, (99,) * 7, 297)):
            self.check_refuses(accepts_length, plan, durations, number)


def not_durations(size):
    """Values that are not durations of a plan with so many tasks, two or more."""
    rest = (1,) * (size - 1)
    return (*NOT_TUPLES, (), rest, (1,) * (size + 1), [1] * size, (rest,), "1" * size, {1: 1},
            *((*rest, wrong) for wrong in (*NOT_INTEGERS, 0, -1, 100, 101, 10 ** 30, deep(5000))),
            *((wrong, *rest) for wrong in (True, None, 0, 100, 1.0, "1")), (0,) * size, (100,) * size, (1,) * 100000)


class TimesErrorsTest(WrongCase):
    def test_plan_and_durations(self):
        for function in (starts, length, slacks, told_chain, length_grounds):
            self.check_arguments(function, ("plan", PLAN, NOT_PLANS), ("durations", DURATIONS, not_durations(4)))
            self.check_arguments(function, ("plan", SEVEN, NOT_PLANS), ("durations", (99,) * 7, not_durations(7)))
            for durations in ((), (0,), (100,), (True,), (1, 1), [1], 1, None, "1", ((1,),)):
                self.check_bad("durations", function, 0, durations)

    def test_accepts_length(self):
        for value in (length_grounds(PLAN, DURATIONS), None):
            def judge(plan, durations, number, held=value):
                return accepts_length(plan, durations, number, held)
            self.check_arguments(judge, ("plan", PLAN, NOT_PLANS), ("durations", DURATIONS, not_durations(4)),
                                 ("number", 7, (*NOT_INTEGERS, -1, 1001, 1002, 10 ** 30, -7)))
        for number in (0, 1, 999, 1000):
            self.assertIs(accepts_length(PLAN, DURATIONS, number, length_grounds(PLAN, DURATIONS)), False)

    def test_bounds_of_durations(self):
        for plan in (*MIXED_PLANS, drawn_plan(3, 7)):
            size = len(tasks_of(plan))
            for at in {0, size // 2, size - 1}:
                for lasting in (-1, 0, 1, 99, 100, 101):
                    durations = (*(50,) * at, lasting, *(50,) * (size - 1 - at))
                    if 1 <= lasting <= 99:
                        self.assertEqual(len(starts(plan, durations)), size)
                    else:
                        self.check_bad("durations", starts, plan, durations)

    def test_lists_are_not_modified(self):
        durations = [2, 5, 1, 3]
        value = [[0, 2, 2, 3], [0, 1]]
        self.check_bad("durations", slacks, PLAN, durations)
        self.assertIs(accepts_length(PLAN, DURATIONS, 7, value), False)
        self.assertEqual((durations, value), ([2, 5, 1, 3], [[0, 2, 2, 3], [0, 1]]))


if __name__ == "__main__":
    unittest.main()
