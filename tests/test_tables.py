"""Points 20, 21 and 25 to 29: tables of relations."""

import unittest
from itertools import permutations, product

from thenbeside.plans import normal, renamed, restricted
from thenbeside.plans import turned as turned_plan
from thenbeside.tables import is_bundle, is_table, part, table_of, turned
from tests.samples import (MIXED_PLANS, NORMAL_PLANS, PLANS_OF_FIVE, SMALL_PLANS, parts_of, relations_of, sets_of,
                           table_from, tasks_of)
from tests.wrong import NOT_PLANS, NOT_SIZES, NOT_TABLES, WrongCase, not_ascending

PLANS = (*SMALL_PLANS, *MIXED_PLANS)
EXAMPLE = (("same", "before", "before"), ("after", "same", "beside"), ("after", "beside", "same"))
CIRCLE = (("same", "before", "after"), ("after", "same", "before"), ("before", "after", "same"))
SHAPE = (("same", "beside", "before", "beside"), ("beside", "same", "before", "before"),
         ("after", "after", "same", "beside"), ("beside", "after", "beside", "same"))
OPPOSITES = {"before": "after", "after": "before", "beside": "beside", "same": "same"}


def tables_of(size):
    """All tables of so many tasks."""
    pairs = [(x, y) for x in range(size) for y in range(x + 1, size)]
    for words in product(("before", "beside", "after"), repeat=len(pairs)):
        told = dict(zip(pairs, words))
        told.update({(y, x): OPPOSITES[word] for (x, y), word in zip(pairs, words)})
        yield table_from(told, size)


def grown(table):
    """All tables with one task more, of which the table is the part for its own tasks."""
    for words in product(("before", "beside", "after"), repeat=len(table)):
        last = (*(OPPOSITES[word] for word in words), "same")
        yield (*((*row, word) for row, word in zip(table, words)), last)


def renamed_table(table, order):
    """The table in which the entry for x and y is that for what they are renamed to."""
    told = {(order[x], order[y]): table[x][y] for x in range(len(table)) for y in range(len(table))}
    return table_from(told, len(table))


SMALL_TABLES = [table for size in range(1, 5) for table in tables_of(size)]
TABLES_OF_PLANS = {table_from(relations_of(plan), len(tasks_of(plan))) for plan in SMALL_PLANS}


class IsTableTest(unittest.TestCase):
    def check_size(self, table, size):
        """The value is a table of so many tasks, and of no other number of them."""
        for other in range(1, 8):
            self.assertIs(is_table(table, other), other == size, (table, other))

    def test_one_entry(self):
        self.check_size((("same",),), 1)

    def test_two_tasks(self):
        for word in ("before", "beside", "after"):
            self.check_size((("same", word), (OPPOSITES[word], "same")), 2)

    def test_tables_that_do_not_fit_together(self):
        self.check_size(CIRCLE, 3)
        self.check_size(SHAPE, 4)

    def test_all_tables_of_one_to_four_tasks(self):
        self.assertEqual([sum(len(table) == size for table in SMALL_TABLES) for size in range(1, 5)], [1, 3, 27, 729])
        for table in SMALL_TABLES:
            self.check_size(table, len(table))

    def test_seven_tasks(self):
        for plan in MIXED_PLANS:
            self.check_size(table_from(relations_of(plan), len(tasks_of(plan))), len(tasks_of(plan)))

    def test_eight_tasks_are_too_many(self):
        for word in ("before", "beside"):
            told = {(x, y): word if x < y else OPPOSITES[word] for x in range(8) for y in range(8)}
            self.check_size(table_from(told, 7), 7)
            self.check_size(table_from(told, 8), None)

    def test_what_is_no_table(self):
        for index, value in enumerate(NOT_TABLES):
            for size in range(1, 8):
                with self.subTest(index=index, size=size):
                    self.assertIs(is_table(value, size), False)

    def test_one_entry_changed(self):
        for table in (EXAMPLE, CIRCLE, SHAPE):
            for x, y in product(range(len(table)), repeat=2):
                for word in ("same", "before", "beside", "after", "then", "", None, True, 0, ("before",), ["before"]):
                    rows = [list(row) for row in table]
                    rows[x][y] = word
                    value = tuple(tuple(row) for row in rows)
                    self.assertIs(is_table(value, len(table)), word == table[x][y], value)

    def test_one_row_changed(self):
        for at, row in enumerate(EXAMPLE):
            for other in (row[:-1], row[1:], (*row, "same"), (*row, "beside"), (), list(row), None, "same", row[::-1]):
                value = (*EXAMPLE[:at], other, *EXAMPLE[at + 1:])
                self.assertIs(is_table(value, 3), other == row, value)
        for value in (EXAMPLE[:-1], EXAMPLE[1:], (*EXAMPLE, EXAMPLE[0]), (*EXAMPLE, ()), list(EXAMPLE)):
            self.check_size(value, None)

    def test_rows_and_columns_of_some_tasks_only(self):
        self.check_size(tuple(row[:2] for row in EXAMPLE), None)
        self.check_size(tuple(row[:2] for row in EXAMPLE[:2]), 2)


class TableOfTest(unittest.TestCase):
    def test_examples(self):
        self.assertEqual(table_of(("then", (0, ("beside", (1, 2))))), EXAMPLE)
        self.assertEqual(table_of(0), (("same",),))
        self.assertEqual(table_of(("then", (1, 0))), (("same", "after"), ("before", "same")))
        self.assertEqual(table_of(("beside", (1, 0))), (("same", "beside"), ("beside", "same")))

    def test_all_plans(self):
        for plan in PLANS:
            table = table_of(plan)
            self.assertEqual(table, table_from(relations_of(plan), len(tasks_of(plan))))
            self.assertIs(is_table(table, len(tasks_of(plan))), True)

    def test_same_table_exactly_if_normal_plans_are_equal(self):
        normal_plans = {}
        for plan in SMALL_PLANS:
            self.assertEqual(normal_plans.setdefault(table_of(plan), normal(plan)), normal(plan))
        self.assertEqual(len(set(normal_plans.values())), len(normal_plans))

    def test_what_is_before_a_task_is_before_what_comes_after_it(self):
        for plan in (*MIXED_PLANS, *PLANS_OF_FIVE):
            table = table_of(plan)
            for a, b, c in permutations(range(len(table)), 3):
                if table[a][b] == table[b][c] == "before":
                    self.assertEqual(table[a][c], "before")


class PartTest(unittest.TestCase):
    def test_examples(self):
        self.assertEqual(part(SHAPE, (0, 1, 2)), (("same", "beside", "before"), ("beside", "same", "before"),
                                                  ("after", "after", "same")))
        self.assertEqual(part(CIRCLE, (0, 2)), (("same", "after"), ("before", "same")))
        self.assertEqual(part(CIRCLE, (1, 2)), (("same", "before"), ("after", "same")))

    def test_all_tasks_chosen(self):
        for table in SMALL_TABLES:
            self.assertEqual(part(table, tuple(range(len(table)))), table)

    def test_one_task_chosen(self):
        for table in (EXAMPLE, CIRCLE, SHAPE):
            for task in range(len(table)):
                self.assertEqual(part(table, (task,)), (("same",),))

    def test_entries_are_those_of_the_table(self):
        for table in (EXAMPLE, CIRCLE, SHAPE, *(table_of(plan) for plan in MIXED_PLANS)):
            for chosen in sets_of(len(table)):
                result = part(table, chosen)
                self.assertIs(is_table(result, len(chosen)), True)
                for k, x in enumerate(chosen):
                    for m, y in enumerate(chosen):
                        self.assertEqual(result[k][m], table[x][y])

    def test_part_of_the_table_of_a_plan(self):
        for plan in PLANS:
            for chosen in sets_of(len(tasks_of(plan))):
                self.assertEqual(part(table_of(plan), chosen), table_of(restricted(plan, chosen)))

    def test_tables_of_plans_are_known_by_their_parts_of_three_and_four_tasks(self):
        expected = {table_from(relations_of(plan), 5) for plan in PLANS_OF_FIVE}
        found = set()
        for table in TABLES_OF_PLANS:
            if len(table) == 4:
                found.update(other for other in grown(table) if all(
                    part(other, chosen) in TABLES_OF_PLANS for chosen in sets_of(5, 3) if len(chosen) < 5))
        self.assertEqual(found, expected)


class TurnedTest(unittest.TestCase):
    def test_examples(self):
        self.assertEqual(turned(EXAMPLE), (("same", "after", "after"), ("before", "same", "beside"),
                                           ("before", "beside", "same")))
        self.assertEqual(turned(CIRCLE), (("same", "after", "before"), ("before", "same", "after"),
                                          ("after", "before", "same")))
        self.assertEqual(turned((("same",),)), (("same",),))

    def test_before_and_after_are_exchanged(self):
        for table in SMALL_TABLES:
            self.assertEqual(turned(table), tuple(tuple(OPPOSITES[word] for word in row) for row in table))

    def test_turned_twice_it_is_the_table(self):
        for table in SMALL_TABLES:
            self.assertEqual(turned(turned(table)), table)

    def test_table_of_a_turned_plan(self):
        for plan in PLANS:
            self.assertEqual(turned(table_of(plan)), table_of(turned_plan(plan)))

    def test_table_of_a_plan_exactly_if_the_table_is(self):
        for table in SMALL_TABLES:
            self.assertEqual(turned(table) in TABLES_OF_PLANS, table in TABLES_OF_PLANS)


class IsBundleTest(unittest.TestCase):
    def test_examples(self):
        self.assertIs(is_bundle(EXAMPLE, (1, 2)), True)
        self.assertIs(is_bundle(SHAPE, (0, 1)), False)
        self.assertIs(is_bundle(EXAMPLE, (0, 1)), False)

    def test_no_tasks(self):
        for table in ((("same",),), EXAMPLE, CIRCLE, SHAPE):
            self.assertIs(is_bundle(table, ()), False)

    def test_single_tasks_and_all_tasks(self):
        for table in SMALL_TABLES:
            for task in range(len(table)):
                self.assertIs(is_bundle(table, (task,)), True)
            self.assertIs(is_bundle(table, tuple(range(len(table)))), True)

    def test_only_bundles_of_circle_and_shape(self):
        for table in (CIRCLE, SHAPE):
            for chosen in sets_of(len(table), 2):
                self.assertIs(is_bundle(table, chosen), len(chosen) == len(table))

    def test_each_other_task_has_one_relation_to_all_of_them(self):
        for table in (*SMALL_TABLES, *(table_of(plan) for plan in MIXED_PLANS)):
            for chosen in sets_of(len(table)):
                others = [task for task in range(len(table)) if task not in chosen]
                expected = all(len({table[x][y] for y in chosen}) == 1 for x in others)
                self.assertIs(is_bundle(table, chosen), expected)

    def test_parts_of_plans(self):
        for plan in PLANS:
            for piece in parts_of(plan):
                self.assertIs(is_bundle(table_of(plan), tuple(sorted(tasks_of(piece)))), True)

    def test_some_parts_of_beside_and_neighbouring_parts_of_then(self):
        for plan in PLANS:
            for piece in parts_of(plan):
                if isinstance(piece, int):
                    continue
                word, parts = piece
                for places in sets_of(len(parts)):
                    if word == "beside" or places[-1] - places[0] < len(places):
                        chosen = sorted(task for at in places for task in tasks_of(parts[at]))
                        self.assertIs(is_bundle(table_of(plan), tuple(chosen)), True)

    def test_parts_of_then_that_are_not_neighbours(self):
        self.assertIs(is_bundle(table_of(("then", (0, 1, 2))), (0, 2)), False)

    def test_bundles_are_renamed(self):
        for table in (EXAMPLE, CIRCLE, SHAPE, *(table_of(plan) for plan in NORMAL_PLANS[::7])):
            for order in permutations(range(len(table))):
                other = renamed_table(table, order)
                for chosen in sets_of(len(table), 0):
                    moved = tuple(sorted(order[task] for task in chosen))
                    self.assertIs(is_bundle(other, moved), is_bundle(table, chosen))

    def test_table_of_a_renamed_plan(self):
        for plan in SMALL_PLANS:
            for order in permutations(range(len(tasks_of(plan)))):
                self.assertEqual(table_of(renamed(plan, order)), renamed_table(table_of(plan), order))


class TablesErrorsTest(WrongCase):
    def test_wrong_size_is_told_for_every_value(self):
        for size in NOT_SIZES:
            for index, value in enumerate((EXAMPLE, (("same",),), *NOT_TABLES)):
                with self.subTest(size=size, index=index):
                    self.check_bad("size", is_table, value, size)

    def test_table_of(self):
        self.check_arguments(table_of, ("plan", ("then", (0, ("beside", (2, 1)))), NOT_PLANS))

    def test_part(self):
        for table in (EXAMPLE, SHAPE, CIRCLE):
            wrongs = ((), *not_ascending(len(table)))
            self.check_arguments(part, ("table", table, NOT_TABLES), ("chosen", (0, 2), wrongs))

    def test_turned(self):
        self.check_arguments(turned, ("table", SHAPE, NOT_TABLES))

    def test_is_bundle(self):
        for table in (EXAMPLE, SHAPE, CIRCLE):
            self.check_arguments(is_bundle, ("table", table, NOT_TABLES), ("chosen", (), not_ascending(len(table))))
            self.check_arguments(is_bundle, ("table", table, NOT_TABLES), ("chosen", (1, 2), not_ascending(len(table))))

    def test_wrong_table_comes_before_an_empty_tuple(self):
        for index, table in enumerate(NOT_TABLES):
            with self.subTest(index=index):
                self.check_bad("table", is_bundle, table, ())
                self.check_bad("table", part, table, ())

    def test_table_of_one_task(self):
        for chosen in ((1,), (0, 0), (0, 1), (False,), [0], 0, None, "0"):
            self.check_bad("chosen", part, (("same",),), chosen)
            self.check_bad("chosen", is_bundle, (("same",),), chosen)
        self.check_bad("chosen", part, (("same",),), ())

    def test_lists_are_not_modified(self):
        table = [["same", "beside"], ["beside", "same"]]
        chosen = [1, 0]
        self.check_bad("table", turned, table)
        self.check_bad("chosen", part, EXAMPLE, chosen)
        self.check_bad("chosen", is_bundle, EXAMPLE, chosen)
        self.assertEqual((table, chosen), ([["same", "beside"], ["beside", "same"]], [1, 0]))


if __name__ == "__main__":
    unittest.main()
