"""The largest problems that the document allows are answered within seconds by each function."""

import unittest
from itertools import combinations
from time import process_time

from thenbeside.book import Book
from thenbeside.conflicts import (accepts_conflict, accepts_removal, conflict_grounds, removal_grounds,
                                  smallest_conflict, smallest_removal, told_conflict)
from thenbeside.dropping import (accepts_grounds, can_be_dropped, grounds_for, is_possible, plan_without, smallest_base,
                                 told_base)
from thenbeside.journals import are_right, replayed
from thenbeside.listing import count_among, count_plans, index_of_plan, nth_plan, plans_from
from thenbeside.reading import next_tokens, read_plan, read_problem
from thenbeside.rules import gathered, keeps
from thenbeside.scanning import scan
from thenbeside.shapes import flaw, plan_of
from thenbeside.solving import accepts, least_stuck, solve, splits, with_split
from thenbeside.sticking import is_stuck
from thenbeside.tables import table_of
from thenbeside.times import accepts_length, length, length_grounds, slacks, starts, told_chain
from thenbeside.verdicts import accepts_verdict, evidence_for, implied_rules, open_relations, verdict
from thenbeside.writing import plan_text, problem_text
from thenbeside.widths import accepts_width, count_abreast, widest_set, width, width_grounds
from tests.problems import BEFORE, LARGE, WORDS, kept_by_plan
from tests.samples import MIXED_PLANS

MOST_SECONDS = 5
TASKS = tuple(range(7))
PAIRS = tuple(combinations(TASKS, 2))

# Seven tasks without rules, and with twenty rules: strict ones, loose ones, and rules that are needed or not.
SOLVABLE = (
    (7, ()),
    (7, tuple((x, ("before", "beside"), y) for x, y in PAIRS[:20])),
    (7, tuple((x, BEFORE, y) for x, y in PAIRS[1:])),
    (7, tuple((x, WORDS, y) for x, y in PAIRS[:20])),
    (7, ((5, ("beside", "after"), 6),) * 20),
    *(kept_by_plan(seed, MIXED_PLANS[7 + seed % 4], 20) for seed in range(6)),
)
CONTRADICTORY = tuple(problem for problem in LARGE if problem[0] == 7 and solve(problem)[0] == "set")


class LargestTest(unittest.TestCase):
    def timed(self, function, *arguments):
        """What the function returns, within a few seconds."""
        start = process_time()
        result = function(*arguments)
        self.assertLess(process_time() - start, MOST_SECONDS, function.__name__)
        return result

    def test_solving(self):
        for problem in (*SOLVABLE, *CONTRADICTORY):
            answer = self.timed(solve, problem)
            self.assertEqual(answer[0], "plan" if problem in SOLVABLE else "set")
            self.assertIs(self.timed(accepts, problem, answer), True)
            stuck = self.timed(least_stuck, problem)
            self.assertIs(stuck is None, answer[0] == "plan")
            if stuck is not None:
                self.assertIs(self.timed(is_stuck, problem, stuck), True)
            found = self.timed(splits, problem, TASKS)
            for split in found[:3]:
                plan = self.timed(with_split, problem, split)
                self.assertIs(plan is None, answer[0] == "set")
            self.timed(gathered, problem)

    def test_verdicts(self):
        for problem in SOLVABLE:
            self.assertLessEqual(len(self.timed(implied_rules, problem)), 21)
            for first, second in ((0, 6), (6, 3)):
                found = self.timed(open_relations, problem, first, second)
                for word in WORDS:
                    told = self.timed(verdict, problem, first, word, second)
                    self.assertIs(told == "never", word not in found)
                    value = self.timed(evidence_for, problem, first, word, second)
                    self.assertIs(self.timed(accepts_verdict, problem, first, word, second, value), True)

    def test_listing(self):
        for problem in (*SOLVABLE, *CONTRADICTORY):
            many = self.timed(count_plans, problem)
            self.assertIs(many > 0, problem in SOLVABLE)
            self.assertEqual(self.timed(count_among, problem, TASKS), many)
            plans = self.timed(plans_from, problem, max(0, many - 20), 20)
            self.assertEqual(len(plans), min(20, many))
            if many:
                self.assertEqual(self.timed(nth_plan, problem, many - 1), plans[-1])
                self.assertEqual(self.timed(index_of_plan, problem, plans[-1]), many - 1)
                self.assertIs(self.timed(keeps, problem, plans[0]), True)

    def test_dropping(self):
        for problem in SOLVABLE:
            size, rules = problem
            indexes = tuple(range(len(rules)))
            self.assertIs(self.timed(is_possible, problem, indexes), True)
            base = self.timed(told_base, problem)
            self.assertLessEqual(set(base), set(indexes))
            for start in (0, 12):
                fewer = (size, rules[start:start + 8])
                self.assertLessEqual(len(self.timed(smallest_base, fewer)), len(self.timed(told_base, fewer)))
            for index in indexes[::3]:
                dropped = self.timed(can_be_dropped, problem, indexes, index)
                self.assertIs(self.timed(plan_without, problem, indexes, index) is None, dropped)
                value = self.timed(grounds_for, problem, indexes, index)
                self.assertIs(self.timed(accepts_grounds, problem, indexes, index, value), dropped)

    def test_conflicts(self):
        for problem in (*SOLVABLE, *CONTRADICTORY):
            indexes = tuple(range(len(problem[1])))
            conflict = self.timed(told_conflict, problem)
            self.assertIs(conflict is None, problem in SOLVABLE)
            for collection in (indexes, conflict or ()):
                value = self.timed(conflict_grounds, problem, collection)
                self.assertIs(self.timed(accepts_conflict, problem, collection, value), value is not None)
            value = self.timed(removal_grounds, problem, ())
            self.assertIs(self.timed(accepts_removal, problem, (), value), conflict is None)
            for start in (0, 6, 12):
                fewer = (7, problem[1][start:start + 8])
                conflict = self.timed(smallest_conflict, fewer)
                removal = self.timed(smallest_removal, fewer)
                self.assertIs(conflict is None, removal == ())
                value = self.timed(removal_grounds, fewer, removal)
                self.assertIs(self.timed(accepts_removal, fewer, removal, value), True)

    def test_eight_rules_with_a_conflict_of_all(self):
        for problem in ((7, tuple((x, BEFORE, (x + 1) % 7) for x in range(7)) + ((0, WORDS, 6),)),
                        (7, ((0, BEFORE, 1),) * 7 + ((1, BEFORE, 0),))):
            self.assertGreater(len(self.timed(smallest_conflict, problem)), 1)
            self.assertEqual(len(self.timed(smallest_removal, problem)), 1)

    def test_times_and_widths(self):
        for plan in MIXED_PLANS[7:]:
            for durations in ((1,) * 7, (99,) * 7, (1, 99, 98, 2, 3, 50, 49)):
                value = self.timed(length_grounds, plan, durations)
                self.assertEqual(value, (self.timed(starts, plan, durations), self.timed(told_chain, plan, durations)))
                number = self.timed(length, plan, durations)
                self.assertIs(self.timed(accepts_length, plan, durations, number, value), True)
                self.assertEqual(len(self.timed(slacks, plan, durations)), 7)
            value = self.timed(width_grounds, plan)
            self.assertIs(self.timed(accepts_width, plan, value), True)
            self.assertEqual(self.timed(width, plan), len(self.timed(widest_set, plan)))
            self.assertGreater(self.timed(count_abreast, plan), 7)

    def test_scanning(self):
        for text in ("a" + " " * 599, "a " * 300, ")" * 600, "(" * 6 + ")(" * 297, "1 then " * 85):
            self.assertEqual(self.timed(scan, text)[-1], ("end", "", len(text) + 1))

    def test_reading_and_writing(self):
        for plan in MIXED_PLANS[7:]:
            text = self.timed(plan_text, plan)
            self.assertEqual(self.timed(read_plan, text + " " * (600 - len(text))), plan)
            self.assertIn("the end", self.timed(next_tokens, text, "plan"))
        for problem in (*SOLVABLE, *CONTRADICTORY):
            text = self.timed(problem_text, problem)
            self.assertEqual(self.timed(read_problem, " " * (600 - len(text)) + text), problem)
            self.assertIn("the end", self.timed(next_tokens, text, "problem"))
        self.assertEqual(self.timed(next_tokens, "(a then " * 6 + "b" + " then c" * 70, "plan"), ["then", '")"'])
        self.assertEqual(self.timed(next_tokens, "7:" + "a after b," * 59 + "c", "problem")[0], "beside")

    def test_books(self):
        for problem in (*SOLVABLE, *CONTRADICTORY):
            book = Book(7)
            for rule in problem[1]:
                self.timed(book.act, ("add", rule))
            self.assertEqual(self.timed(book.problem), problem)
            records = self.timed(book.records)
            self.assertIs(self.timed(are_right, 7, records), True)
            self.assertIs(self.timed(book.accepts, self.timed(book.answer)), True)
            self.assertIn(0, self.timed(book.fate, MIXED_PLANS[7]))
            other = self.timed(replayed, 7, self.timed(book.journal))
            self.assertEqual(self.timed(other.twin).problem(), problem)
            self.assertIs(self.timed(other.undo) is None, problem[1] == ())

    def test_shapes(self):
        for plan in MIXED_PLANS[7:]:
            table = table_of(plan)
            self.assertIsNone(self.timed(flaw, table))
            self.assertEqual(table_of(self.timed(plan_of, table)), table)


if __name__ == "__main__":
    unittest.main()
