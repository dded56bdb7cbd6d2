"""Points 99 to 103: widths, widest sets and covers."""

import unittest
from itertools import combinations

from thenbeside.plans import turned
from thenbeside.widths import accepts_width, count_abreast, widest_set, width, width_grounds
from tests.judges import is_right_width
from tests.samples import (MIXED_PLANS, PLANS_OF_FIVE, SMALL_PLANS, drawn_plan, parts_of, relations_of, sets_of,
                           tasks_of)
from tests.wrong import NOT_PLANS, WrongCase, deep

PLAN = ("then", (0, ("beside", (1, ("then", (2, 3))))))
PLANS = (*SMALL_PLANS, *PLANS_OF_FIVE[::5], *MIXED_PLANS, *(drawn_plan(seed, 5 + seed % 3) for seed in range(300)))


def abreast(plan):
    """The list of all sets of tasks of the plan that are abreast, the empty one among them, the smaller ones first."""
    told = relations_of(plan)
    return [chosen for chosen in sets_of(len(tasks_of(plan)), 0)
            if all(told[pair] == "beside" for pair in combinations(chosen, 2))]


ABREAST = [(plan, abreast(plan)) for plan in PLANS]


class WidthTest(unittest.TestCase):
    def test_examples(self):
        self.assertEqual((width(PLAN), widest_set(PLAN), count_abreast(PLAN)), (2, (1, 2), 7))
        self.assertEqual((width(0), widest_set(0), count_abreast(0)), (1, (0,), 2))
        row = tuple(range(7))
        self.assertEqual((width(("then", row)), widest_set(("then", row)), count_abreast(("then", row))), (1, (0,), 8))
        beside = ("beside", row[::-1])
        self.assertEqual((width(beside), widest_set(beside), count_abreast(beside)), (7, row, 128))

    def test_what_all_sets_say(self):
        for plan, sets in ABREAST:
            most = len(sets[-1])
            self.assertEqual(width(plan), most)
            self.assertEqual(widest_set(plan), min(chosen for chosen in sets if len(chosen) == most))
            self.assertEqual(count_abreast(plan), len(sets))

    def test_parts(self):
        for plan, _ in ABREAST:
            for part in parts_of(plan)[1:]:
                if sorted(tasks_of(part)) == list(range(len(tasks_of(part)))):
                    self.assertLessEqual(width(part), width(plan))
                    self.assertLess(count_abreast(part), count_abreast(plan))

    def test_turned(self):
        for plan in PLANS:
            other = turned(plan)
            self.assertEqual((width(other), count_abreast(other)), (width(plan), count_abreast(plan)))

    def test_first_widest_set(self):
        self.assertEqual(widest_set(("then", (("beside", (3, 2)), ("beside", (1, 0))))), (0, 1))
        self.assertEqual(widest_set(("then", (("beside", (0, 4)), ("beside", (3, 1, 2))))), (1, 2, 3))
        self.assertEqual(widest_set(("beside", (("then", (5, 2)), ("then", (1, 4)), ("then", (3, 0))))), (0, 1, 2))


class WidthGroundsTest(unittest.TestCase):
    def test_widest_set_and_a_cover(self):
        for plan in PLANS:
            value = width_grounds(plan)
            self.assertIsInstance(value, tuple)
            self.assertEqual(value[0], widest_set(plan))
            self.assertEqual(len(value[1]), width(plan))
            self.assertTrue(is_right_width(plan, value))
            self.assertIs(accepts_width(plan, value), True)

    def test_kinds(self):
        for plan in PLANS[::10]:
            chosen, cover = width_grounds(plan)
            for item in (chosen, cover, *cover):
                self.assertIsInstance(item, tuple)


def covers(tasks):
    """Give all tuples of rows, in which each task is in exactly one, in every sequence of the rows."""
    if not tasks:
        yield ()
        return
    for rest in covers(tasks[1:]):
        for at in range(len(rest) + 1):
            yield (*rest[:at], tasks[:1], *rest[at:])
        for at, row in enumerate(rest):
            for place in range(len(row) + 1):
                yield (*rest[:at], (*row[:place], tasks[0], *row[place:]), *rest[at + 1:])


class AcceptsWidthTest(WrongCase):
    def test_examples(self):
        self.assertIs(accepts_width(PLAN, ((1, 3), ((0, 1), (2, 3)))), True)
        self.assertIs(accepts_width(PLAN, ((1, 3), ((1,), (0, 2), (3,)))), False)

    def test_all_covers_and_sets(self):
        found = 0
        for plan in (*SMALL_PLANS[:30], *SMALL_PLANS[30::12]):
            size = len(tasks_of(plan))
            for cover in covers(tuple(range(size))):
                for chosen in sets_of(size, 0):
                    expected = is_right_width(plan, (chosen, cover))
                    self.assertIs(accepts_width(plan, (chosen, cover)), expected)
                    self.assertTrue(len(chosen) == width(plan) or not expected)
                    found += expected
        self.assertGreater(found, 100)

    def test_no_cover_has_fewer_chains(self):
        for plan in SMALL_PLANS[::9]:
            for cover in covers(tuple(range(len(tasks_of(plan))))):
                for chosen in sets_of(len(tasks_of(plan))):
                    if len(cover) < width(plan):
                        self.assertIs(accepts_width(plan, (chosen, cover)), False)

    def test_all_sets_with_the_cover(self):
        for plan, sets in ABREAST[::7]:
            cover = width_grounds(plan)[1]
            for chosen in sets_of(len(tasks_of(plan)), 0):
                expected = chosen in sets and len(chosen) == len(cover)
                self.assertIs(accepts_width(plan, (chosen, cover)), expected)

    def test_covers_that_are_not_right(self):
        for cover in (((0, 1), (2,)), ((0, 1), (2, 3), ()), ((0, 1, 2, 3),), ((0, 1), (3, 2)), ((0, 1), (0, 2, 3)),
                      ((0, 1), (1, 2, 3)), ((0, 1), (2, 2, 3)), ((0, 1), (2, 3), (3,)), ((1, 0), (2, 3)), (),
                      ((0, 1), [2, 3]), [(0, 1), (2, 3)], ([0, 1], (2, 3)), ((0, 1), (2, 4)), ((0, 1), (2, -1)),
                      ((0, True), (2, 3)), ((False, 1), (2, 3)), ((0, 1), (2, 3.0)), ((0, 1), "23"), ("01", "23"),
                      ((0, 1), None), (None, (2, 3)), ((0, 1, 2, 3), ()), ((0, 1, 3), (2,)), None, 0, True,
                      ((0, 1), (2, 3), deep(5000)), ((0, 1), deep(5000)), ((0, 1), (2, 3) * 50000),
                      ((0, 1),) * 100000, ((), ())):
            self.assertIs(accepts_width(PLAN, ((1, 3), cover)), False)

    def test_sets_that_are_not_right(self):
        cover = ((0, 1), (2, 3))
        for chosen in ((), (1,), (0, 1), (2, 3), (3, 1), (1, 1), (1, 2, 3), (True, 3), (1, 3.0), [1, 3], "13", None,
                       (1, None), (1, 4), (-1, 1), ((1,), (3,)), (1, 3, 3), deep(5000), (1,) * 100000):
            self.assertIs(accepts_width(PLAN, (chosen, cover)), False)
        for chosen in ((1, 2), (1, 3)):
            self.assertIs(accepts_width(PLAN, (chosen, cover)), True)
            for value in ([chosen, cover], (cover, chosen), (chosen,), (chosen, cover, ()), (chosen, list(cover))):
                self.assertIs(accepts_width(PLAN, value), False)

    def test_one_task(self):
        self.assertIs(accepts_width(0, ((0,), ((0,),))), True)
        for value in (((), ()), ((), ((0,),)), ((0,), ()), ((0,), ((0, 0),)), ((0,), ((),)), ((0,), ((0,), (0,))),
                      ((0,), (0,)), (((0,),), (0,))):
            self.assertIs(accepts_width(0, value), False)

    def test_values_of_every_kind(self):
        for plan in (0, PLAN, ("beside", (1, 0)), *MIXED_PLANS[6:]):
            self.check_refuses(accepts_width, plan)


class WidthsErrorsTest(WrongCase):
    def test_plan(self):
        for function in (width, widest_set, count_abreast, width_grounds):
            self.check_arguments(function, ("plan", PLAN, NOT_PLANS))

    def test_accepts_width(self):
        for value in (width_grounds(PLAN), None):
            def judge(plan, held=value):
                return accepts_width(plan, held)
            self.check_arguments(judge, ("plan", PLAN, NOT_PLANS))

    def test_lists_are_not_modified(self):
        value = [[1, 3], [[0, 1], [2, 3]]]
        plan = ["beside", [1, 0]]
        self.assertIs(accepts_width(PLAN, value), False)
        self.check_bad("plan", widest_set, plan)
        self.assertEqual((value, plan), ([[1, 3], [[0, 1], [2, 3]]], ["beside", [1, 0]]))


if __name__ == "__main__":
    unittest.main()
