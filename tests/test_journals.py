"""Points 118, 120, 121, 125 and 126: replayed journals, and records that are right."""

import unittest

from thenbeside.book import Book
from thenbeside.journals import are_right, replayed
from tests.books import NOT_COMMANDS, RING_COMMANDS, drawn_commands, drawn_journal, states_of
from tests.changes import changed_values
from tests.judges import are_right_records, why_not
from tests.problems import BEFORE, BESIDE, WORDS, kept_plans, stuck_sets
from tests.samples import drawn_plan
from tests.test_book import book_with, told_by
from tests.wrong import NOT_SIZES, NOT_TUPLES, WrongCase, deep

MILDER = ("put", 2, (2, ("before", "beside"), 1))
FULL = (("add", (0, BEFORE, 1)),) * 20
NOT_JOURNALS = (*NOT_TUPLES[:6], 0, 1, [], {}, list(RING_COMMANDS), RING_COMMANDS[0], (*FULL, FULL[0]),
                (*FULL, ("drop", 0)), FULL * 5000, (RING_COMMANDS,), (list(RING_COMMANDS[0]),), deep(5000),
                *((wrong,) for wrong in NOT_COMMANDS), *((FULL[0], wrong) for wrong in NOT_COMMANDS[::4]),
                *((wrong, FULL[0]) for wrong in NOT_COMMANDS[::4]),
                *((*FULL[:19], wrong) for wrong in NOT_COMMANDS[::9]))


class ReplayedTest(WrongCase):
    def test_examples(self):
        book = replayed(3, (*RING_COMMANDS, ("drop", 2)))
        self.assertEqual(book.problem(), (3, ((0, BEFORE, 1), (1, BEFORE, 2))))
        self.assertEqual(book.answer(), ("plan", ("then", (0, 1, 2))))

    def test_as_it_was_done(self):
        for seed in range(28):
            size = 1 + seed % 7
            journal = drawn_journal(seed, size, seed % 21 if size > 1 else 0)
            book = replayed(size, journal)
            self.assertIsInstance(book, Book)
            self.assertEqual(told_by(book), told_by(book_with(size, journal)))
            self.assertEqual(book.journal(), journal)
            self.assertEqual(book.problem(), states_of(size, journal)[-1])
            self.assertEqual(told_by(replayed(size, book.journal())), told_by(book))

    def test_books_do_not_change_one_another(self):
        book = replayed(3, RING_COMMANDS)
        other = replayed(3, RING_COMMANDS)
        book.undo()
        self.assertEqual(other.journal(), RING_COMMANDS)
        self.assertEqual(other.act(MILDER), 4)
        self.assertEqual(book.journal(), RING_COMMANDS[:2])

    def test_twenty_commands(self):
        self.assertEqual(replayed(2, FULL).problem(), (2, ((0, BEFORE, 1),) * 20))
        turns = (("add", (0, BEFORE, 1)), ("drop", 0)) * 10
        self.assertEqual(replayed(2, turns).problem(), (2, ()))
        self.assertEqual(replayed(2, turns).journal(), turns)

    def test_what_is_not_possible(self):
        for ahead in ((), FULL[:1], FULL[:19]):
            self.check_not_possible("missing", replayed, 2, (*ahead, ("drop", len(ahead))))
            self.check_not_possible("missing", replayed, 2, (*ahead, ("put", len(ahead), (0, BEFORE, 1))))
        self.check_not_possible("missing", replayed, 2, (("drop", 0), *FULL[:19]))
        self.check_not_possible("missing", replayed, 2, (FULL[0], ("drop", 1), ("drop", 0)))

    def test_drawn_commands(self):
        found = set()
        for seed in range(60):
            size = 1 + seed % 7
            commands = tuple(drawn_commands(seed, size, 1 + seed % 18))
            why, book = None, Book(size)
            for command in commands:
                why = why_not(book.problem()[1], command)
                if why is not None:
                    break
                book.act(command)
            if why is None:
                self.assertEqual(told_by(replayed(size, commands)), told_by(book))
            else:
                self.check_not_possible(why, replayed, size, commands)
            found.add(why)
        self.assertLessEqual({None, "missing"}, found)

    def test_wrong_arguments(self):
        self.check_arguments(replayed, ("size", 4, NOT_SIZES), ("journal", FULL[:2], NOT_JOURNALS))

    def test_tasks_below_the_size(self):
        for size in range(1, 8):
            for rule in ((0, BEFORE, size), (size, BEFORE, 0), (0, BEFORE, 0)):
                self.check_bad("journal", replayed, size, (("add", rule),))

    def test_wrong_journal_comes_ahead_of_what_is_not_possible(self):
        self.check_bad("journal", replayed, 3, (("drop", 0), ("drop", 20)))
        self.check_bad("journal", replayed, 3, (("drop", 0),) * 21)
        self.check_bad("journal", replayed, 3, FULL + (("add", (0, BEFORE, 2)),))

    def test_lists_are_not_modified(self):
        journal = [["add", (0, BEFORE, 1)]]
        self.check_bad("journal", replayed, 3, journal)
        self.check_bad("journal", replayed, 3, tuple(journal))
        self.assertEqual(journal, [["add", (0, BEFORE, 1)]])


class AreRightTest(WrongCase):
    def test_examples(self):
        book = book_with(3, RING_COMMANDS)
        self.assertIs(are_right(3, book.records()), True)
        self.assertIs(are_right(3, ()), True)
        self.assertIs(are_right(4, book.records()), False)

    def test_records_of_books(self):
        for seed in range(42):
            size = 1 + seed % 7
            book = book_with(size, drawn_journal(seed, size, seed % 21 if size > 1 else 0))
            records = book.records()
            self.assertIs(are_right(size, records), True)
            for many in range(len(records)):
                self.assertIs(are_right(size, records[:many]), True)
                self.assertIs(are_right(size, records[many:]), are_right_records(size, records[many:]))

    def test_one_thing_changed(self):
        accepted = 0
        for seed in range(24):
            size = 2 + seed % 6
            records = book_with(size, drawn_journal(seed, size, 1 + seed % 6)).records()
            for other in changed_values(records):
                expected = are_right_records(size, other)
                self.assertIs(are_right(size, other), expected)
                accepted += expected
        self.assertGreater(accepted, 50)

    def test_twenty_records_and_twenty_one(self):
        for journal in (FULL, (("add", (1, BEFORE, 0)), ("drop", 0)) * 10):
            records = book_with(2, journal).records()
            self.assertIs(are_right(2, records), True)
            for at in (0, 10, 19):
                for more in (records[:2], records[at:at + 1]):
                    self.assertIs(are_right(2, (*records[:at], *more, *records[at:])), False)
                fewer = (*records[:at], *records[at + 1:])
                self.assertIs(are_right(2, fewer), are_right_records(2, fewer))
        # Each of the records holds behind those ahead of it, but 21 are too many.
        adding = ((("add", (0, WORDS, 1)), ("plan", ("then", (0, 1)))),) * 19
        taking = (("drop", 0), ("plan", ("then", (1, 0))))
        self.assertIs(are_right(2, (*adding, taking)), True)
        self.assertIs(are_right(2, (*adding, taking, taking)), False)
        self.assertIs(are_right(2, (*adding, adding[0])), True)
        self.assertIs(are_right(2, (*adding, adding[0], taking)), False)

    def test_other_plans_and_sets(self):
        command = ("add", (0, BEFORE, 1))
        for plan in kept_plans((3, ((0, BEFORE, 1),))):
            self.assertIs(are_right(3, ((command, ("plan", plan)),)), True)
        self.assertIs(are_right(3, ((command, ("plan", ("beside", (2, ("then", (0, 1)))))),)), True)
        self.assertIs(are_right(3, ((command, ("plan", ("then", (1, 0, 2)))),)), False)
        journal = (("add", (0, BEFORE, 1)), ("add", (0, BESIDE, 1)), ("add", (1, BEFORE, 2)), ("add", (2, BEFORE, 0)))
        records = book_with(3, journal).records()
        stuck = stuck_sets(states_of(3, journal)[-1])
        self.assertGreater(len(stuck), 1)
        for chosen in stuck:
            self.assertIs(are_right(3, (*records[:3], (journal[3], ("set", chosen)))), True)
        self.assertIs(are_right(3, (*records[:3], (journal[3], ("set", (1, 2))))), False)
        self.assertIs(are_right(3, (*records[:3], (journal[3], ("set", (0, 1, 2))))), (0, 1, 2) in stuck)

    def test_commands_that_are_not_possible(self):
        plan = ("plan", ("beside", (0, 1)))
        for command in (("drop", 0), ("drop", 19), ("put", 0, (0, WORDS, 1)), ("put", 1, (0, BESIDE, 1))):
            self.assertIs(are_right(2, ((command, plan),)), False)
        added = (("add", (0, WORDS, 1)), plan)
        self.assertIs(are_right(2, (added, (("drop", 0), plan))), True)
        self.assertIs(are_right(2, (added, (("drop", 1), plan))), False)
        self.assertIs(are_right(2, ((("drop", 0), plan), added)), False)

    def test_wrong_commands(self):
        for wrong in NOT_COMMANDS:
            for answer in (("plan", drawn_plan(1, 4)), ("plan", ("then", (0, 1, 2, 3))), None):
                self.assertIs(are_right(4, ((wrong, answer),)), False)

    def test_forms_that_are_not_right(self):
        records = book_with(3, RING_COMMANDS).records()
        for other in (list(records), records[0], (list(records[0]), *records[1:]), (*records[:2], list(records[2])),
                      tuple((command,) for command, _ in records), tuple((answer,) for _, answer in records),
                      tuple(record[::-1] for record in records), records[::-1], (*records, ()), (*records, None),
                      ((*records[0], ()), *records[1:]), (records,), {0: records}, (records[0], [], records[2]),
                      tuple(command for command, _ in records)):
            self.assertIs(are_right(3, other), False)

    def test_values_of_every_kind(self):
        for size in range(1, 8):
            for at, value in enumerate((True, False, None, 0, 1, "", "plan", [], {}, [()], ((),), (None,), ("add",),
                                        (("add", None),), (((), ()),), ((None, None),), (([], []),), ("ab",), (0,) * 20,
                                        (0,) * 100000, deep(5000), (deep(5000),), ((deep(5000), deep(5000)),), 0.0, b"",
                                        ((("drop", 0), ("plan", 0)),), {(): ()}, ((("add",), ("plan", 0)),))):
                with self.subTest(size=size, at=at):
                    self.assertIs(are_right(size, value), False)
            self.assertIs(are_right(size, ()), True)
        self.check_refuses(are_right_and_some)

    def test_size(self):
        for records in ((), book_with(3, RING_COMMANDS).records(), None):
            def judge(size, held=records):
                return are_right(size, held)
            self.check_arguments(judge, ("size", 3, NOT_SIZES))


def are_right_and_some(value):
    """Whether the value is right records for three tasks, and not the empty tuple, which is right."""
    return value != () and are_right(3, value)


if __name__ == "__main__":
    unittest.main()
