"""Points 22 to 24, 26, 28 and 30: gaps and Ns, and the plan of a table."""

import unittest
from itertools import permutations, product
from random import Random

from thenbeside.plans import normal, restricted, turned as turned_plan
from thenbeside.shapes import flaw, plan_of, shows_flaw
from thenbeside.tables import part, table_of, turned
from tests.samples import MIXED_PLANS, PLANS_OF_FIVE, SMALL_PLANS, relations_of, sets_of, table_from, tasks_of
from tests.wrong import ANY_VALUES, NOT_TABLES, WrongCase
from tests.test_tables import CIRCLE, EXAMPLE, OPPOSITES, SHAPE, SMALL_TABLES, TABLES_OF_PLANS, renamed_table

ONE = (("same",),)
PLANS = (*SMALL_PLANS, *MIXED_PLANS, *PLANS_OF_FIVE[::20])


def changed(table, x, y, word):
    """The table with another relation of x to y."""
    rows = [list(row) for row in table]
    rows[x][y], rows[y][x] = word, OPPOSITES[word]
    return tuple(tuple(row) for row in rows)


def changed_tables():
    """Tables of plans of five to seven tasks with one relation changed."""
    for plan in (*MIXED_PLANS[5:], *PLANS_OF_FIVE[::200]):
        table = table_from(relations_of(plan), len(tasks_of(plan)))
        for x, y in permutations(range(len(table)), 2):
            if x < y:
                for word in ("before", "beside", "after"):
                    if word != table[x][y]:
                        yield changed(table, x, y, word)


def flaws_of(table):
    """The list of the flaws of a table, gaps first, each kind ascending."""
    size = len(table)
    gaps = [("gap", a, b, c) for a, b, c in permutations(range(size), 3)
            if table[a][b] == table[b][c] == "before" and table[a][c] != "before"]
    shapes = []
    for tasks in permutations(range(size), 4):
        a, b, c, d = tasks
        words = [table[x][y] for x, y in ((a, c), (b, c), (b, d), (a, b), (c, d), (a, d))]
        if words == ["before", "before", "before", "beside", "beside", "beside"]:
            shapes.append(("N", a, b, c, d))
    return gaps + shapes


def drawn_tables():
    """Drawn tables of five to seven tasks: any relations, and those of a row of tasks with some beside one another."""
    source = Random(24)
    for at in range(60):
        size = 5 + at % 3
        words = (("before", "beside", "after"), ("before", "before", "before", "beside"))[at % 2]
        told = {}
        for x, y in permutations(range(size), 2):
            if x < y:
                told[x, y] = words[source.randrange(len(words))]
                told[y, x] = OPPOSITES[told[x, y]]
        yield table_from(told, size)


OTHER_TABLES = (*changed_tables(), *drawn_tables())


class FlawTest(unittest.TestCase):
    def test_examples(self):
        self.assertEqual(flaw(SHAPE), ("N", 0, 1, 2, 3))
        self.assertEqual(flaw(CIRCLE), ("gap", 0, 1, 2))
        self.assertIsNone(flaw(EXAMPLE))
        self.assertIsNone(flaw(ONE))

    def test_first_flaw(self):
        for table in (*SMALL_TABLES, *OTHER_TABLES):
            flaws = flaws_of(table)
            self.assertEqual(flaw(table), flaws[0] if flaws else None)

    def test_gap_comes_ahead_of_an_n(self):
        # The N of the tasks 0 to 3 and a gap of the tasks 3 to 5.
        told = {(x, y): "beside" for x, y in permutations(range(6), 2)}
        for x, y in ((0, 2), (1, 2), (1, 3), (3, 4), (4, 5)):
            told[x, y], told[y, x] = "before", "after"
        table = table_from(told, 6)
        self.assertEqual(flaw(table), ("gap", 1, 3, 4))
        self.assertIs(shows_flaw(table, ("N", 0, 1, 2, 3)), True)
        self.assertEqual(flaw(part(table, (0, 1, 2, 3))), ("N", 0, 1, 2, 3))

    def test_first_n_is_told_and_not_the_one_with_the_least_tasks(self):
        # In this table 0 is the last task of the only N.
        table = renamed_table(SHAPE, (3, 2, 1, 0))
        self.assertEqual(flaw(table), ("N", 3, 2, 1, 0))

    def test_turned_n(self):
        self.assertEqual(flaw(turned(SHAPE)), ("N", 3, 2, 1, 0))

    def test_table_of_a_plan_has_no_flaw(self):
        for plan in PLANS:
            self.assertIsNone(flaw(table_from(relations_of(plan), len(tasks_of(plan)))))

    def test_table_of_a_plan_exactly_if_no_flaw(self):
        for table in SMALL_TABLES:
            self.assertIs(flaw(table) is None, table in TABLES_OF_PLANS)

    def test_turned_table_is_one_of_a_plan_exactly_if_the_table_is(self):
        for table in (*SMALL_TABLES, *OTHER_TABLES):
            self.assertIs(flaw(turned(table)) is None, flaw(table) is None)


class ShowsFlawTest(WrongCase):
    def test_examples(self):
        self.assertIs(shows_flaw(CIRCLE, ("gap", 1, 2, 0)), True)
        self.assertIs(shows_flaw(CIRCLE, ("gap", 0, 2, 1)), False)
        self.assertIs(shows_flaw(SHAPE, ("N", 0, 1, 2, 3)), True)

    def test_accepts_exactly_the_flaws(self):
        for table in (*SMALL_TABLES[::9], *OTHER_TABLES[::15], SHAPE, CIRCLE, EXAMPLE, ONE):
            flaws = set(flaws_of(table))
            for word, many in (("gap", 3), ("N", 4)):
                for tasks in product(range(len(table)), repeat=many):
                    self.assertIs(shows_flaw(table, (word, *tasks)), (word, *tasks) in flaws)

    def test_first_flaw_is_accepted(self):
        for table in (*SMALL_TABLES, *OTHER_TABLES):
            if flaw(table) is not None:
                self.assertIs(shows_flaw(table, flaw(table)), True)

    def test_other_words_and_lengths(self):
        for table, tasks in ((SHAPE, (0, 1, 2, 3)), (CIRCLE, (0, 1, 2))):
            for word in ("gap", "N", "n", "Gap", "", None, 0, ("gap",), "before", "then"):
                right = (table == SHAPE and word == "N") or (table == CIRCLE and word == "gap")
                self.assertIs(shows_flaw(table, (word, *tasks)), right)
                self.assertIs(shows_flaw(table, (word, *tasks[:-1])), False)
                self.assertIs(shows_flaw(table, (word, *tasks, 0)), False)
                self.assertIs(shows_flaw(table, [word, *tasks]), False)
                self.assertIs(shows_flaw(table, (word, tasks)), False)
                self.assertIs(shows_flaw(table, (*tasks, word)), False)

    def test_items_that_are_no_tasks(self):
        for table, value in ((SHAPE, ("N", 0, 1, 2, 3)), (CIRCLE, ("gap", 0, 1, 2))):
            for at in range(1, len(value)):
                for item in (True, False, None, "0", 0.0, 1.0, -1, -2, len(table), 10 ** 30, (0,), [0], "same"):
                    self.assertIs(shows_flaw(table, (*value[:at], item, *value[at + 1:])), False)
        # True and False in the places of 1 and 0.
        self.assertIs(shows_flaw(CIRCLE, ("gap", False, True, 2)), False)
        self.assertIs(shows_flaw(SHAPE, ("N", False, True, 2, 3)), False)

    def test_values_of_every_kind(self):
        for table in (SHAPE, CIRCLE, EXAMPLE, ONE):
            self.check_refuses(shows_flaw, table)

    def test_flaws_are_renamed(self):
        for table in (CIRCLE, SHAPE, *SMALL_TABLES[-40::3]):
            for order in permutations(range(len(table))):
                other = renamed_table(table, order)
                self.assertIs(flaw(other) is None, flaw(table) is None)
                for word, *tasks in flaws_of(table):
                    self.assertIs(shows_flaw(other, (word, *(order[task] for task in tasks))), True)


class PlanOfTest(unittest.TestCase):
    def test_examples(self):
        self.assertEqual(plan_of(turned(EXAMPLE)), ("then", (("beside", (1, 2)), 0)))
        self.assertIsNone(plan_of(SHAPE))
        self.assertEqual(plan_of(part(SHAPE, (0, 1, 2))), ("then", (("beside", (0, 1)), 2)))
        self.assertIsNone(plan_of(CIRCLE))
        self.assertEqual(plan_of(ONE), 0)

    def test_tables_of_plans(self):
        for plan in (*SMALL_PLANS, *MIXED_PLANS, *PLANS_OF_FIVE):
            self.assertEqual(plan_of(table_from(relations_of(plan), len(tasks_of(plan)))), normal(plan))

    def test_either_a_plan_or_a_flaw(self):
        for table in (*SMALL_TABLES, *OTHER_TABLES):
            plan = plan_of(table)
            self.assertIs(plan is None, bool(flaws_of(table)))
            if plan is not None:
                self.assertEqual((table_of(plan), normal(plan)), (table, plan))

    def test_parts(self):
        for plan in PLANS:
            table = table_of(plan)
            for chosen in sets_of(len(table)):
                self.assertEqual(plan_of(part(table, chosen)), normal(restricted(plan, chosen)))

    def test_turned_table(self):
        for plan in PLANS:
            self.assertEqual(plan_of(turned(table_of(plan))), normal(turned_plan(plan)))

    def test_three_parts_of_four_tasks_are_of_plans_and_the_table_is_not(self):
        for chosen in sets_of(4):
            self.assertIs(plan_of(part(SHAPE, chosen)) is None, len(chosen) == 4)


class ShapesErrorsTest(WrongCase):
    def test_wrong_tables(self):
        self.check_arguments(flaw, ("table", SHAPE, NOT_TABLES))
        self.check_arguments(plan_of, ("table", SHAPE, NOT_TABLES))

    def test_wrong_table_is_told_for_every_value(self):
        for index, table in enumerate(NOT_TABLES):
            for value in (("gap", 0, 1, 2), ("N", 0, 1, 2, 3), *ANY_VALUES[::7]):
                with self.subTest(index=index):
                    self.check_bad("table", shows_flaw, table, value)

    def test_lists_are_not_modified(self):
        table = [["same", "beside"], ["beside", "same"]]
        value = ["gap", 0, 1, 2]
        self.check_bad("table", flaw, table)
        self.assertIs(shows_flaw(CIRCLE, value), False)
        self.assertEqual((table, value), ([["same", "beside"], ["beside", "same"]], ["gap", 0, 1, 2]))


if __name__ == "__main__":
    unittest.main()
