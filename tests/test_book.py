"""Points 116 to 119 and 121 to 126: books of rules."""

import unittest

from thenbeside.book import Book
from thenbeside.errors import NotPossible, TooLarge
from thenbeside.journals import are_right, replayed
from thenbeside.solving import solve
from tests.books import NOT_COMMANDS, RING_COMMANDS, drawn_commands, drawn_journal, states_of
from tests.changes import changed_values
from tests.judges import are_right_records, is_right_answer, why_not
from tests.problems import AFTER, BEFORE, BESIDE, WORDS, is_kept_by, kept_plans, stuck_sets
from tests.samples import MIXED_PLANS, NORMAL_PLANS, drawn_plan, is_normal, relations_of, sets_of, tasks_of
from tests.wrong import NOT_PLANS, NOT_SIZES, WrongCase, snapshot

MILDER = ("put", 2, (2, ("before", "beside"), 1))
# Plans of each size, to ask for their fates.
PLANS = {size: [plan for plan in (*NORMAL_PLANS, *MIXED_PLANS, *(drawn_plan(seed, 5 + seed % 3) for seed in range(30)))
                if len(tasks_of(plan)) == size] for size in range(1, 8)}


def book_with(size, commands):
    """A book in which the commands have been carried out."""
    book = Book(size)
    for command in commands:
        book.act(command)
    return book


def told_by(book):
    """All that a book tells."""
    size = book.problem()[0]
    fates = tuple(book.fate(plan) for plan in PLANS[size][::7])
    return (book.problem(), book.journal(), book.answer(), book.records(), fates)


class BookCase(WrongCase):
    def check_book(self, book, size, journal):
        """Check all that the book tells against what follows from the journal."""
        states = states_of(size, journal)
        problem = states[-1]
        self.assertEqual(book.problem(), problem)
        self.assertEqual(book.journal(), tuple(journal))
        answer = book.answer()
        self.assertTrue(is_right_answer(problem, answer))
        self.assertEqual(answer, solve(problem))
        self.assertIs(book.accepts(answer), True)
        records = book.records()
        self.assertEqual([command for command, _ in records], list(journal))
        self.assertEqual([told for _, told in records], [solve(state) for state in states[1:]])
        self.assertTrue(are_right_records(size, records))
        for item in (book.problem(), book.journal(), records, *records):
            self.assertIsInstance(item, tuple)
        for plan in PLANS[size][::6]:
            told = relations_of(plan)
            expected = tuple(many for many, state in enumerate(states) if is_kept_by(state, told))
            self.assertEqual(book.fate(plan), expected)


class ActTest(BookCase):
    def test_examples(self):
        book = Book(3)
        self.assertEqual([book.act(command) for command in RING_COMMANDS], [1, 2, 3])
        self.assertEqual(book.answer(), ("set", (0, 1, 2)))
        self.assertIs(book.accepts(("set", (0, 1))), False)
        self.assertEqual(book.fate(("then", (0, 1, 2))), (0, 1, 2))
        self.assertEqual((book.act(MILDER), book.answer()[0]), (4, "set"))
        self.assertEqual((book.undo(), book.act(("drop", 2)), book.answer()),
                         (MILDER, 4, ("plan", ("then", (0, 1, 2)))))
        self.assertIs(are_right(3, book.records()), True)
        self.assertEqual(replayed(3, book.journal()).problem(), book.problem())

    def test_new_books(self):
        for size in range(1, 8):
            book = Book(size)
            self.check_book(book, size, ())
            self.assertEqual((book.problem(), book.journal(), book.records()), ((size, ()), (), ()))
            self.assertEqual(book.answer()[0], "plan")
            self.assertTrue(is_normal(book.answer()[1]))
            for plan in PLANS[size]:
                self.assertEqual(book.fate(plan), (0,))

    def test_drawn_commands(self):
        done = {None: 0, "many": 0, "missing": 0}
        for seed in range(63):
            size = 1 + seed % 7
            book, journal = Book(size), []
            for command in drawn_commands(seed, size, 1 + seed % 18):
                why = why_not(book.problem()[1], command)
                if why is None:
                    journal.append(command)
                    self.assertEqual(book.act(command), len(journal))
                else:
                    self.check_not_possible(why, book.act, command)
                done[why] += 1
                self.check_book(book, size, journal)
        self.assertGreater(min(done[None], done["missing"]), 20)

    def test_add(self):
        book = Book(4)
        self.assertEqual(book.act(("add", (3, WORDS, 0))), 1)
        self.assertEqual(book.act(("add", (0, BEFORE, 1))), 2)
        self.assertEqual(book.act(("add", (3, WORDS, 0))), 3)
        self.assertEqual(book.problem(), (4, ((3, WORDS, 0), (0, BEFORE, 1), (3, WORDS, 0))))

    def test_drop_and_put_at_every_place(self):
        rules = [(x, BEFORE, x + 1) for x in range(5)]
        adding = [("add", rule) for rule in rules]
        for number in range(5):
            book = book_with(6, adding)
            book.act(("put", number, (5, AFTER, 0)))
            self.assertEqual(book.problem()[1], (*rules[:number], (5, AFTER, 0), *rules[number + 1:]))
            book.act(("drop", number))
            self.assertEqual(book.problem()[1], (*rules[:number], *rules[number + 1:]))
        for number in (5, 6, 18, 19):
            book = book_with(6, adding)
            self.check_not_possible("missing", book.act, ("put", number, (5, AFTER, 0)))
            self.check_not_possible("missing", book.act, ("drop", number))
            self.check_book(book, 6, adding)

    def test_nothing_can_be_dropped_from_an_empty_book(self):
        for size in range(1, 8):
            book = Book(size)
            for number in (0, 1, 18, 19):
                self.check_not_possible("missing", book.act, ("drop", number))
                if size > 1:
                    self.check_not_possible("missing", book.act, ("put", number, (0, BEFORE, 1)))
            self.check_book(book, size, ())

    def test_twenty_rules_and_commands(self):
        adding = [("add", (x % 6, WORDS, x % 6 + 1)) for x in range(20)]
        book = book_with(7, adding[:19])
        self.check_not_possible("missing", book.act, ("drop", 19))
        self.assertEqual(book.act(adding[19]), 20)
        # Twenty rules come ahead of twenty commands.
        self.check_not_possible("many", book.act, adding[0])
        for command in (("drop", 0), ("drop", 19), ("put", 19, (0, BEFORE, 1)), ("put", 0, (0, BEFORE, 1))):
            self.check_too_large(book, command)
        self.check_book(book, 7, adding)

    def check_too_large(self, book, command):
        """The book refuses the command as 20 commands are in the journal, and stays as it was."""
        before = told_by(book)
        with self.assertRaises(TooLarge) as caught:
            book.act(command)
        self.assertEqual(caught.exception.what, "commands")
        self.assertEqual(told_by(book), before)

    def test_twenty_commands_and_few_rules(self):
        journal = [("add", (0, BEFORE, 1)), ("drop", 0)] * 10
        book = book_with(2, journal[:19])
        self.assertEqual(book.act(("drop", 0)), 20)
        self.check_too_large(book, ("add", (0, BEFORE, 1)))
        for number in (0, 5, 19):
            # What is not possible comes ahead of twenty commands.
            self.check_not_possible("missing", book.act, ("drop", number))
            self.check_not_possible("missing", book.act, ("put", number, (0, BEFORE, 1)))
        self.check_book(book, 2, journal)
        self.assertEqual(book.undo(), ("drop", 0))
        self.assertEqual(book.act(("put", 0, (1, BEFORE, 0))), 20)
        self.check_too_large(book, ("add", (0, BEFORE, 1)))
        self.check_too_large(book, ("put", 0, (0, BEFORE, 1)))
        self.assertEqual(len(book.records()), 20)
        self.assertIs(are_right(2, book.records()), True)

    def test_drop_number_19(self):
        journal = [("add", (0, BEFORE, 1))] * 20
        book = book_with(3, journal)
        book.undo()
        self.check_not_possible("missing", book.act, ("put", 19, (0, BEFORE, 1)))
        self.assertEqual(book.act(("put", 18, (1, BEFORE, 2))), 20)
        self.assertEqual(book.problem(), (3, ((0, BEFORE, 1),) * 18 + ((1, BEFORE, 2),)))

    def test_returned_values_are_not_used_again(self):
        book = book_with(3, RING_COMMANDS)
        before = told_by(book)
        for told in (book.problem(), book.journal(), book.answer(), book.records()):
            self.assertIsInstance(told, tuple)
            hash(told)
        self.assertEqual(told_by(book), before)


class UndoTest(BookCase):
    def test_empty_journal(self):
        for size in range(1, 8):
            book = Book(size)
            for _ in range(3):
                self.assertIsNone(book.undo())
                self.check_book(book, size, ())

    def test_one_command_after_another(self):
        for seed in range(21):
            size = 2 + seed % 6
            journal = list(drawn_journal(seed, size, 1 + seed % 18))
            book = book_with(size, journal)
            while journal:
                self.assertEqual(book.undo(), journal.pop())
                self.check_book(book, size, journal)
            self.assertIsNone(book.undo())

    def test_commands_behind_undoing(self):
        for seed in range(14):
            size = 2 + seed % 6
            journal = list(drawn_journal(seed, size, 12))
            book = book_with(size, journal)
            for _ in range(1 + seed % 5):
                self.assertEqual(book.undo(), journal.pop())
            for command in drawn_commands(seed + 100, size, 5):
                if why_not(book.problem()[1], command) is None:
                    journal.append(command)
                    self.assertEqual(book.act(command), len(journal))
            self.check_book(book, size, journal)

    def test_drop_and_put_are_undone(self):
        book = book_with(3, RING_COMMANDS)
        for command in (("drop", 0), ("drop", 1), ("drop", 2), ("put", 0, (2, BESIDE, 1)), MILDER):
            before = told_by(book)
            book.act(command)
            self.assertNotEqual(told_by(book), before)
            self.assertEqual(book.undo(), command)
            self.assertEqual(told_by(book), before)


class AnswerTest(BookCase):
    def test_point_122(self):
        for seed in range(21):
            size = 2 + seed % 4
            book = Book(size)
            for command in drawn_journal(seed, size, 14):
                before = book.answer()[0]
                book.act(command)
                if command[0] == "add":
                    self.assertFalse(before == "set" and book.answer()[0] == "plan")
                if command[0] == "drop":
                    self.assertFalse(before == "plan" and book.answer()[0] == "set")

    def test_accepts_all_answers(self):
        for seed in range(24):
            size = 2 + seed % 3
            book = Book(size)
            for command in drawn_journal(seed, size, 1 + seed % 6):
                book.act(command)
                problem = book.problem()
                kept, stuck = kept_plans(problem), stuck_sets(problem)
                for plan in kept_plans((size, ())):
                    self.assertIs(book.accepts(("plan", plan)), plan in kept)
                    self.assertIs(book.accepts(("set", plan)), False)
                for chosen in sets_of(size, 0):
                    self.assertIs(book.accepts(("set", chosen)), chosen in stuck)
                    self.assertIs(book.accepts(("plan", chosen)), False)

    def test_plans_that_are_not_normal(self):
        book = book_with(3, RING_COMMANDS[:1])
        self.assertIs(book.accepts(("plan", ("beside", (2, ("then", (0, 1)))))), True)
        self.assertEqual(book.fate(("beside", (2, ("then", (0, 1))))), (0, 1))

    def test_one_thing_changed(self):
        for seed in range(16):
            size = 1 + seed % 7
            book = book_with(size, drawn_journal(seed, size, 5 if size > 1 else 0))
            self.assertIs(book.accepts(book.answer()), True)
            for other in changed_values(book.answer()):
                self.assertIs(book.accepts(other), is_right_answer(book.problem(), other))

    def test_values_of_every_kind(self):
        for book in (Book(1), Book(7), book_with(3, RING_COMMANDS), book_with(2, [("add", (1, BESIDE, 0))])):
            before = told_by(book)
            self.check_refuses(book.accepts)
            self.assertEqual(told_by(book), before)

    def test_answer_of_another_state(self):
        book = book_with(3, RING_COMMANDS)
        first = book.answer()
        book.act(("drop", 0))
        self.assertIs(book.accepts(first), False)
        second = book.answer()
        book.undo()
        self.assertIs(book.accepts(second), False)
        self.assertIs(book.accepts(first), True)


class FateTest(BookCase):
    def test_examples(self):
        book = book_with(3, RING_COMMANDS)
        self.assertEqual(book.fate(("then", (2, 0, 1))), (0, 1))
        self.assertEqual(book.fate(("then", (2, 1, 0))), (0,))
        book.act(("drop", 0))
        self.assertEqual(book.fate(("then", (1, 2, 0))), (0, 4))
        self.assertEqual(book.fate(("then", (0, 1, 2))), (0, 1, 2))
        book.undo()
        self.assertEqual(book.fate(("then", (1, 2, 0))), (0,))

    def test_twenty_commands(self):
        book = book_with(2, [("add", (0, BEFORE, 1)), ("drop", 0)] * 10)
        self.assertEqual(book.fate(("then", (0, 1))), tuple(range(21)))
        self.assertEqual(book.fate(("then", (1, 0))), tuple(range(0, 21, 2)))


class TwinTest(BookCase):
    def test_same_journal(self):
        for seed in range(21):
            size = 1 + seed % 7
            journal = drawn_journal(seed, size, seed % 20 if size > 1 else 0)
            book = book_with(size, journal)
            other = book.twin()
            self.assertIsInstance(other, Book)
            self.assertIsNot(other, book)
            self.assertEqual(told_by(other), told_by(book))
            self.check_book(other, size, journal)

    def test_what_is_done_to_one_does_not_change_the_other(self):
        book = book_with(3, RING_COMMANDS)
        other = book.twin()
        other.undo()
        self.check_book(book, 3, RING_COMMANDS)
        self.check_book(other, 3, RING_COMMANDS[:2])
        book.act(("drop", 0))
        third = other.twin()
        other.act(MILDER[:1] + (1,) + MILDER[2:])
        self.check_book(book, 3, (*RING_COMMANDS, ("drop", 0)))
        self.check_book(other, 3, (*RING_COMMANDS[:2], ("put", 1, MILDER[2])))
        self.check_book(third, 3, RING_COMMANDS[:2])
        while book.undo() is not None:
            self.check_book(third, 3, RING_COMMANDS[:2])
        self.check_book(book, 3, ())

    def test_full_journal(self):
        journal = [("add", (0, BEFORE, 1))] * 20
        book = book_with(2, journal)
        other = book.twin()
        self.assertEqual(other.undo(), journal[0])
        self.check_book(book, 2, journal)
        self.check_book(other, 2, journal[:19])

    def test_two_books(self):
        book, other = Book(3), Book(3)
        book.act(RING_COMMANDS[0])
        self.check_book(other, 3, ())
        other.act(RING_COMMANDS[1])
        self.check_book(book, 3, RING_COMMANDS[:1])
        self.check_book(other, 3, RING_COMMANDS[1:2])


class BookErrorsTest(BookCase):
    def test_size(self):
        self.check_arguments(Book, ("size", 3, NOT_SIZES))

    def test_command(self):
        for journal in ((), (("add", (0, BEFORE, 1)),), (("add", (0, BEFORE, 1)),) * 20):
            book = book_with(4, journal)
            before = told_by(book)
            for index, wrong in enumerate(NOT_COMMANDS):
                with self.subTest(index=index):
                    self.check_bad("command", book.act, wrong)
            self.assertEqual(told_by(book), before)
            self.check_book(book, 4, journal)

    def test_tasks_below_the_size(self):
        for size in range(1, 8):
            book = Book(size)
            for first, second in ((0, size), (size, 0), (0, 7), (0, 0), (size - 1, size - 1)):
                for command in (("add", (first, BEFORE, second)), ("put", 0, (first, BEFORE, second))):
                    self.check_bad("command", book.act, command)
            if size > 1:
                self.assertEqual(book.act(("add", (0, BEFORE, size - 1))), 1)

    def test_wrong_command_comes_ahead_of_what_is_not_possible(self):
        full = book_with(3, [("add", (0, BEFORE, 1))] * 20)
        for book in (Book(3), full):
            for command in (("drop", 20), ("put", 20, (0, BEFORE, 1)), ("put", 19, (0, BEFORE, 3)), ("drop", True),
                            ("add", (0, BEFORE, 3))):
                self.check_bad("command", book.act, command)

    def test_plan(self):
        for size in (1, 2, 4, 7):
            book = book_with(size, [("add", (0, BEFORE, 1))] if size > 1 else [])
            before = told_by(book)
            for wrong in (*NOT_PLANS, *(PLANS[other][0] for other in range(1, 8) if other != size)):
                self.check_bad("plan", book.fate, wrong)
            self.assertEqual(told_by(book), before)

    def test_errors_change_nothing(self):
        for seed in range(10):
            size = 2 + seed % 6
            journal = drawn_journal(seed, size, 2 * seed)
            book = book_with(size, journal)
            before = told_by(book)
            for call, argument in ((book.act, ("drop", 19)), (book.act, None), (book.fate, None), (book.fate, (0,)),
                                   (book.act, ("put", 19, (0, BEFORE, 1))), (book.act, ["add", (0, BEFORE, 1)])):
                kept = snapshot(argument)
                with self.assertRaises(ValueError):
                    call(argument)
                self.assertEqual(snapshot(argument), kept)
                self.assertEqual(told_by(book), before)
            self.check_book(book, size, journal)

    def test_why_of_what_is_not_possible(self):
        with self.assertRaises(NotPossible) as caught:
            Book(1).act(("drop", 0))
        self.assertEqual(vars(caught.exception), {"why": "missing"})


if __name__ == "__main__":
    unittest.main()
