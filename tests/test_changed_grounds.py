"""Grounds of every chapter: those that are returned are accepted; with one thing changed they are judged rightly."""

import unittest
from itertools import permutations

from thenbeside import conflicts, dropping, grounds, shapes, solving, sticking, verdicts
from thenbeside.times import accepts_length, length, length_grounds, slacks
from thenbeside.widths import accepts_width, width_grounds
from tests import judges
from tests.changes import changed_values
from tests.problems import (BEFORE, BESIDE, EXAMPLE, HAND_MADE, LARGE, NOTHING_LEFT, OF_FOUR, RING, SHAPE, VERDICTS,
                            WORDS, drawn, kept_plans)
from tests.samples import TIMED_PLANS, sets_of, table_from

RING_OF_FOUR = (4, tuple((x, BEFORE, (x + 1) % 4) for x in range(4)))
PROBLEMS = (EXAMPLE, RING, SHAPE, VERDICTS, NOTHING_LEFT, RING_OF_FOUR, (2, ((0, BEFORE, 1), (0, BESIDE, 1))), (1, ()),
            (3, RING[1] + ((1, ("before", "beside"), 0),)), *OF_FOUR[3::40], drawn(5, 5, 9), LARGE[4])
CONTRADICTORY = tuple(problem for problem in PROBLEMS if solving.solve(problem)[0] == "set")
SOLVABLE = tuple(problem for problem in PROBLEMS if problem not in CONTRADICTORY)


class ChangedGroundsTest(unittest.TestCase):
    def check(self, judge, right, value, *arguments):
        """The value is accepted, and each value that differs in one thing is judged as it is right."""
        self.assertIs(judge(*arguments, value), True)
        self.assertTrue(right(*arguments, value))
        refused = 0
        for other in changed_values(value):
            expected = right(*arguments, other)
            if judge(*arguments, other) is not expected:
                self.fail((judge.__name__, arguments, other, expected))
            refused += not expected
        self.assertGreater(refused, 5)

    def test_flaws(self):
        ring = table_from({(x, y): "before" if (y - x) % 3 == 1 else "after" for x, y in permutations(range(3), 2)}, 3)
        told = {pair: "beside" for pair in permutations(range(4), 2)}
        for x, y in ((0, 2), (1, 2), (1, 3)):
            told[x, y], told[y, x] = "before", "after"
        for table in (ring, table_from(told, 4)):
            self.check(shapes.shows_flaw, judges.is_right_flaw, shapes.flaw(table), table)

    def test_splits(self):
        for problem in PROBLEMS:
            for chosen in sets_of(problem[0], 2)[::-5]:
                for split in solving.splits(problem, chosen)[::3]:
                    self.check(sticking.accepts_split, judges.is_right_split, split, problem, chosen)

    def test_stuck_sets(self):
        for problem in CONTRADICTORY:
            for chosen in judges.stuck_of(problem):
                value = grounds.grounds_for(problem, chosen)
                self.check(grounds.accepts_grounds, judges.are_right_grounds, value, problem, chosen)

    def test_answers(self):
        for problem in PROBLEMS:
            self.check(solving.accepts, judges.is_right_answer, solving.solve(problem), problem)
            for plan in kept_plans(problem)[::20] if problem[0] < 6 else ():
                self.check(solving.accepts, judges.is_right_answer, ("plan", plan), problem)

    def test_verdicts(self):
        def judge(problem, question, value):
            return verdicts.accepts_verdict(problem, *question, value)
        for problem in (EXAMPLE, VERDICTS, *SOLVABLE[-2:]):
            for question in ((0, "before", 1), (2, "beside", 0), (1, "after", 2), (0, "after", 1)):
                value = verdicts.evidence_for(problem, *question)
                self.check(judge, judges.is_right_evidence, value, problem, question)

    def test_dropping(self):
        for problem in (*PROBLEMS, HAND_MADE[8], (2, ((0, BEFORE, 1), (0, ("before", "beside"), 1), (0, WORDS, 1)))):
            for collection in ((0, 1, 2), (0, 1), tuple(range(len(problem[1])))):
                if collection and collection[-1] < len(problem[1]) and dropping.is_possible(problem, collection):
                    for index in collection:
                        value = dropping.grounds_for(problem, collection, index)
                        if value is not None:
                            self.check(dropping.accepts_grounds, judges.are_right_for_dropping, value, problem,
                                       collection, index)

    def test_conflicts(self):
        for problem in CONTRADICTORY:
            collection = conflicts.told_conflict(problem)
            value = conflicts.conflict_grounds(problem, collection)
            self.check(conflicts.accepts_conflict, judges.are_right_for_conflict, value, problem, collection)

    def test_removals(self):
        for problem in PROBLEMS:
            if len(problem[1]) < 9:
                collection = conflicts.smallest_removal(problem)
                value = conflicts.removal_grounds(problem, collection)
                self.check(conflicts.accepts_removal, judges.are_right_for_removal, value, problem, collection)

    def test_lengths(self):
        for plan, durations in TIMED_PLANS[::5]:
            number = length(plan, durations)
            times, chain = length_grounds(plan, durations)
            late = tuple(time + slack for time, slack in zip(times, slacks(plan, durations)))
            self.check(accepts_length, judges.is_right_length, (times, chain), plan, durations, number)
            self.check(accepts_length, judges.is_right_length, (late, chain), plan, durations, number)

    def test_widths(self):
        for plan, _ in TIMED_PLANS[::3]:
            chosen, cover = width_grounds(plan)
            self.check(accepts_width, judges.is_right_width, (chosen, cover), plan)
            self.check(accepts_width, judges.is_right_width, (chosen, cover[::-1]), plan)


if __name__ == "__main__":
    unittest.main()
