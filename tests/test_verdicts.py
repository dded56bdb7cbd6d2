"""Points 63 to 72: verdicts, their evidence, and implied rules."""

import unittest
from itertools import combinations, permutations

from thenbeside.rules import is_problem
from thenbeside.solving import accepts, solve
from thenbeside.verdicts import accepts_verdict, evidence_for, implied_rules, open_relations, verdict
from tests.problems import (AFTER, ALL_OF_THREE, BEFORE, BESIDE, CHAIN, EXAMPLE, HAND_MADE, LARGE, LISTS, NOTHING_LEFT,
                            OF_FIVE, OF_FOUR, OPPOSITES, RING, SHAPE, SMALL, VERDICTS, WORDS, choices, drawn,
                            kept_plans, others, stuck_sets, with_rule)
from tests.samples import is_normal, relations_of, sets_of
from tests.wrong import NOT_PLANS, NOT_PROBLEMS, NOT_RELATIONS, WrongCase, not_tasks

PROBLEMS = (*SMALL, *OF_FIVE)
SOLVABLE = tuple(problem for problem in PROBLEMS if kept_plans(problem))
LARGE_SOLVABLE = tuple(problem for problem in LARGE if solve(problem)[0] == "plan")
CONTRADICTORY = (RING, SHAPE, NOTHING_LEFT, (2, ((0, BEFORE, 1), (0, BESIDE, 1))))


def questions(problem):
    """All questions about a problem."""
    for first, second in permutations(range(problem[0]), 2):
        for word in WORDS:
            yield first, word, second


def told_by_plans(problem):
    """The verdicts that all plans tell, a dict with a question as each key; the problem has a plan."""
    found = {(x, y): set() for x, y in permutations(range(problem[0]), 2)}
    for plan in kept_plans(problem):
        for pair, word in relations_of(plan).items():
            found[pair].add(word)
    return {(x, word, y): "always" if words == {word} else "sometimes" if word in words else "never"
            for (x, y), words in found.items() for word in WORDS}


def with_affirmation(problem, first, word, second):
    """The problem with the affirmation of the question besides."""
    return with_rule(problem, first, (word,), second)


def with_contrary(problem, first, word, second):
    """The problem with the contrary of the question besides."""
    return with_rule(problem, first, others((word,)), second)


TOLD_VERDICTS = {problem: told_by_plans(problem) for problem in SOLVABLE[::2]}


class VerdictTest(unittest.TestCase):
    def test_examples(self):
        self.assertEqual(verdict(VERDICTS, 0, "before", 2), "sometimes")
        self.assertEqual(verdict(VERDICTS, 0, "after", 2), "never")
        self.assertEqual(verdict(VERDICTS, 1, "after", 0), "always")
        self.assertEqual(verdict(CHAIN, 0, "before", 2), "always")

    def test_what_all_plans_say(self):
        for problem, told in TOLD_VERDICTS.items():
            for question in questions(problem):
                self.assertEqual(verdict(problem, *question), told[question])

    def test_no_rules(self):
        for size in range(2, 8):
            for question in ((0, "before", 1), (size - 1, "beside", 0), (1, "after", 0)):
                self.assertEqual(verdict((size, ()), *question), "sometimes")

    def test_opposite_relation_in_the_other_direction(self):
        for problem in (*SOLVABLE[::9], *LARGE_SOLVABLE[::4]):
            for first, word, second in questions(problem):
                self.assertEqual(verdict(problem, first, word, second),
                                 verdict(problem, second, OPPOSITES[word], first))

    def test_relations_that_no_rule_allows(self):
        for problem in (*SOLVABLE[::5], *LARGE_SOLVABLE[::3]):
            for (x, y), words in choices(problem).items():
                for word in others(words):
                    self.assertEqual(verdict(problem, x, word, y), "never")
                if len(words) == 1:
                    self.assertEqual(verdict(problem, x, *words, y), "always")

    def test_further_rules(self):
        for problem in [problem for problem in SOLVABLE if problem[0] > 2][::12]:
            told = told_by_plans(problem)
            for words in LISTS:
                more = with_rule(problem, 2, words, 0)
                if len(more[1]) <= 20 and solve(more)[0] == "plan":
                    for question, word in told.items():
                        if word != "sometimes":
                            self.assertEqual(verdict(more, *question), word)

    def test_what_is_always_before_leads_on(self):
        for problem in LARGE_SOLVABLE[::2]:
            first = [(x, y) for x, y in permutations(range(problem[0]), 2)
                     if verdict(problem, x, "before", y) == "always"]
            for x, y in first:
                for z in range(problem[0]):
                    if (y, z) in first:
                        self.assertIn((x, z), first)

    def test_rules_in_another_sequence_or_twice(self):
        for problem in SOLVABLE[::25]:
            size, rules = problem
            for question in questions(problem):
                word = verdict(problem, *question)
                self.assertEqual(verdict((size, rules[::-1]), *question), word)
                self.assertEqual(verdict((size, (rules + rules)[:20]), *question), word)

    def test_further_rule_shows_the_verdict(self):
        for problem in (*SOLVABLE[::15], *LARGE_SOLVABLE[::6]):
            if len(problem[1]) < 20:
                for question in questions(problem):
                    word = verdict(problem, *question)
                    self.assertIs(word == "always", solve(with_contrary(problem, *question))[0] == "set")
                    self.assertIs(word == "never", solve(with_affirmation(problem, *question))[0] == "set")


class EvidenceForTest(unittest.TestCase):
    def test_examples(self):
        self.assertEqual(evidence_for(VERDICTS, 0, "after", 2), ("never", (0, 1, 2)))
        self.assertEqual(evidence_for(VERDICTS, 1, "after", 0), ("always", (0, 1)))

    def check_evidence(self, problem, question):
        """The told evidence is accepted, and has what solving finds with the further rule."""
        value = evidence_for(problem, *question)
        self.assertIs(accepts_verdict(problem, *question, value), True)
        self.assertEqual(value[0], verdict(problem, *question))
        if len(problem[1]) < 20:
            affirmed = solve(with_affirmation(problem, *question))
            denied = solve(with_contrary(problem, *question))
            expected = {"always": ("always", denied[1]), "never": ("never", affirmed[1]),
                        "sometimes": ("sometimes", affirmed[1], denied[1])}
            self.assertEqual(value, expected[value[0]])
        if value[0] == "sometimes":
            first, word, second = question
            self.assertTrue(is_normal(value[1]) and is_normal(value[2]))
            self.assertEqual(relations_of(value[1])[first, second], word)
            self.assertNotEqual(relations_of(value[2])[first, second], word)

    def test_small_problems(self):
        for problem in SOLVABLE[::2]:
            for question in questions(problem):
                self.check_evidence(problem, question)

    def test_large_problems(self):
        self.assertIn(20, [len(problem[1]) for problem in LARGE_SOLVABLE])
        for problem in LARGE_SOLVABLE:
            for question in questions(problem):
                self.check_evidence(problem, question)

    def test_words(self):
        for problem, told in TOLD_VERDICTS.items():
            for question in questions(problem):
                self.assertEqual(evidence_for(problem, *question)[0], told[question])


class AcceptsVerdictTest(WrongCase):
    def test_examples(self):
        plans = (("then", (0, ("beside", (1, 2)))), ("beside", (("then", (0, 1)), 2)))
        self.assertIs(accepts_verdict(VERDICTS, 0, "before", 2, ("sometimes", *plans)), True)
        self.assertIs(accepts_verdict(VERDICTS, 0, "before", 2, ("sometimes", *plans[::-1])), False)
        self.assertIs(accepts_verdict(VERDICTS, 0, "before", 2, ("always", (0, 1, 2))), False)
        self.assertIs(accepts_verdict(VERDICTS, 0, "after", 2, ("never", (0, 2))), False)

    def test_all_sets(self):
        for problem in (*HAND_MADE[:5], *HAND_MADE[7:13], *ALL_OF_THREE[::11], *OF_FOUR[::12]):
            for question in questions(problem):
                affirmed = stuck_sets(with_affirmation(problem, *question))
                denied = stuck_sets(with_contrary(problem, *question))
                for chosen in sets_of(problem[0], 0)[::1 if problem[0] < 5 else 4]:
                    self.assertIs(accepts_verdict(problem, *question, ("always", chosen)), chosen in denied)
                    self.assertIs(accepts_verdict(problem, *question, ("never", chosen)), chosen in affirmed)
                    self.assertIs(accepts_verdict(problem, *question, ("sometimes", chosen)), False)
                    self.assertIs(accepts_verdict(problem, *question, ("sometimes", chosen, chosen)), False)

    def test_all_plans(self):
        for problem in (VERDICTS, EXAMPLE, CHAIN, RING, (3, ()), *ALL_OF_THREE[::50]):
            kept = kept_plans(problem)
            all_plans = kept_plans((3, ()))
            for first, word, second in questions(problem):
                for plan in all_plans:
                    for other in all_plans:
                        expected = (plan in kept and other in kept and relations_of(plan)[first, second] == word
                                    and relations_of(other)[first, second] != word)
                        value = ("sometimes", plan, other)
                        self.assertIs(accepts_verdict(problem, first, word, second, value), expected)

    def test_evidence_of_exactly_one_word(self):
        for problem in SOLVABLE[::6]:
            if problem[0] < 5:
                plans = kept_plans(problem)
                for question in questions(problem):
                    first, word, second = question
                    found = {kind for kind in ("always", "never") for chosen in sets_of(problem[0])
                             if accepts_verdict(problem, *question, (kind, chosen))}
                    yes = [plan for plan in plans if relations_of(plan)[first, second] == word]
                    no = [plan for plan in plans if relations_of(plan)[first, second] != word]
                    for plan, other in zip(yes[:1], no[:1]):
                        if accepts_verdict(problem, *question, ("sometimes", plan, other)):
                            found.add("sometimes")
                    self.assertEqual(found, {verdict(problem, *question)})

    def test_contradictory_problems_have_evidence_for_always_and_never(self):
        for problem in (*CONTRADICTORY, *[problem for problem in PROBLEMS if not kept_plans(problem)][::4]):
            chosen = solve(problem)[1]
            for question in questions(problem):
                self.assertIs(accepts_verdict(problem, *question, ("always", chosen)), True)
                self.assertIs(accepts_verdict(problem, *question, ("never", chosen)), True)

    def test_plans_that_are_not_normal(self):
        value = ("sometimes", ("then", (0, ("beside", (2, 1)))), ("beside", (2, ("then", (0, 1)))))
        self.assertIs(accepts_verdict(VERDICTS, 0, "before", 2, value), True)

    def test_forms_that_are_not_right(self):
        plans = (("then", (0, ("beside", (1, 2)))), ("beside", (("then", (0, 1)), 2)))
        for value in (["sometimes", *plans], ("sometimes", plans), ("sometimes", *plans, plans[0]),
                      ("sometimes", plans[0]), ("Sometimes", *plans), ("always", *plans), ("never", *plans), plans,
                      ("plan", *plans), ("sometimes", *plans, ())):
            self.assertIs(accepts_verdict(VERDICTS, 0, "before", 2, value), False)
        for wrong in NOT_PLANS:
            self.assertIs(accepts_verdict(VERDICTS, 0, "before", 2, ("sometimes", wrong, plans[1])), False)
            self.assertIs(accepts_verdict(VERDICTS, 0, "before", 2, ("sometimes", plans[0], wrong)), False)
        for value in (["always", (0, 1)], ("always", [0, 1]), ("always", (1, 0)), ("always", (0, 1), ()),
                      ("always", 0, 1), ("always", (False, 1)), ("always", (0, True)), ("Always", (0, 1)),
                      ("set", (0, 1)), (0, 1), ("always", (0, 1, 1)), ("always", (0, 1, 3)), ("never", (0, 1)),
                      ("always",)):
            self.assertIs(accepts_verdict(VERDICTS, 1, "after", 0, value), False)
        self.assertIs(accepts_verdict(VERDICTS, 1, "after", 0, ("always", (0, 1))), True)

    def test_values_of_every_kind(self):
        for problem in (VERDICTS, RING, (2, ()), (7, ())):
            for question in questions(problem):
                if question[1] == "before" and question[0] == 0:
                    self.check_refuses(accepts_verdict, problem, *question)


class OpenRelationsTest(unittest.TestCase):
    def test_examples(self):
        self.assertEqual(open_relations(VERDICTS, 0, 2), ("before", "beside"))
        self.assertEqual(open_relations(VERDICTS, 2, 0), ("beside", "after"))
        self.assertEqual(open_relations(VERDICTS, 0, 1), BEFORE)
        self.assertEqual(open_relations((7, ()), 6, 0), WORDS)

    def test_all(self):
        for problem, told in TOLD_VERDICTS.items():
            for x, y in permutations(range(problem[0]), 2):
                expected = tuple(word for word in WORDS if told[x, word, y] != "never")
                self.assertEqual(open_relations(problem, x, y), expected)
                self.assertIs(len(expected) == 1, told[x, expected[0], y] == "always")

    def test_large_problems(self):
        for problem in LARGE_SOLVABLE[::5]:
            for x, y in permutations(range(problem[0]), 2):
                found = open_relations(problem, x, y)
                self.assertTrue(found)
                self.assertEqual(found, tuple(word for word in WORDS if verdict(problem, x, word, y) != "never"))
                self.assertLessEqual(set(found), choices(problem)[x, y])


class ImpliedRulesTest(unittest.TestCase):
    def test_examples(self):
        self.assertEqual(implied_rules(VERDICTS), ((0, BEFORE, 1), (0, ("before", "beside"), 2),
                                                   (1, ("before", "beside"), 2)))
        for size in range(1, 8):
            self.assertEqual(implied_rules((size, ())), ())

    def test_all(self):
        for problem in (*SOLVABLE[::3], *LARGE_SOLVABLE):
            rules = [(x, open_relations(problem, x, y), y) for x, y in combinations(range(problem[0]), 2)]
            self.assertEqual(implied_rules(problem), tuple(rule for rule in rules if len(rule[1]) < 3))

    def test_same_plans_keep_them(self):
        for problem in SOLVABLE:
            rules = implied_rules(problem)
            self.assertIs(is_problem((problem[0], rules)), True)
            self.assertEqual(kept_plans((problem[0], rules)), kept_plans(problem))

    def test_twenty_one_rules(self):
        problem = (7, tuple((x, BEFORE, x + 1) for x in range(6)))
        self.assertEqual(implied_rules(problem), tuple((x, BEFORE, y) for x, y in combinations(range(7), 2)))

    def test_twenty_rules(self):
        # Each two tasks are beside one another but 0 and 6, on which there is no rule: all relations are open.
        problem = (7, tuple((x, BESIDE, y) for x, y in combinations(range(7), 2) if (x, y) != (0, 6)))
        self.assertEqual(implied_rules(problem), problem[1])


class VerdictsErrorsTest(WrongCase):
    def question_parameters(self, problem):
        """The parameters of a question with wrong values for each."""
        size = problem[0]
        return (("problem", problem, NOT_PROBLEMS), ("first", 1, not_tasks(size)),
                ("relation", "beside", NOT_RELATIONS), ("second", 2, (*not_tasks(size), 1)))

    def test_questions(self):
        for function in (verdict, evidence_for):
            for problem in (VERDICTS, (7, ())):
                self.check_arguments(function, *self.question_parameters(problem))

    def test_accepts_verdict(self):
        for value in (("always", (0, 1)), None):
            for problem in (VERDICTS, RING, drawn(8, 7, 20)):
                def judge(problem, first, relation, second, held=value):
                    return accepts_verdict(problem, first, relation, second, held)
                self.check_arguments(judge, *self.question_parameters(problem))

    def test_open_relations(self):
        self.check_arguments(open_relations, ("problem", VERDICTS, NOT_PROBLEMS), ("first", 1, not_tasks(3)),
                             ("second", 2, (*not_tasks(3), 1)))

    def test_implied_rules(self):
        self.check_arguments(implied_rules, ("problem", VERDICTS, NOT_PROBLEMS))

    def test_one_task_has_no_question(self):
        for first, second, name in ((0, 0, "second"), (0, 1, "second"), (1, 0, "first"), (1, 1, "first")):
            self.check_bad(name, open_relations, (1, ()), first, second)
            for function in (verdict, evidence_for):
                self.check_bad(name, function, (1, ()), first, "before", second)
        self.check_bad("relation", verdict, (1, ()), 0, "same", 0)

    def test_contradictory(self):
        for problem in CONTRADICTORY:
            self.check_not_possible("contradictory", implied_rules, problem)
            for first, word, second in questions(problem):
                self.check_not_possible("contradictory", verdict, problem, first, word, second)
                self.check_not_possible("contradictory", evidence_for, problem, first, word, second)
                self.check_not_possible("contradictory", open_relations, problem, first, second)
                self.assertIs(accepts_verdict(problem, first, word, second, None), False)

    def test_every_contradictory_problem(self):
        for problem in (*SMALL, *OF_FIVE, *LARGE):
            if problem[0] > 1 and accepts(problem, ("set", solve(problem)[1])):
                self.check_not_possible("contradictory", implied_rules, problem)
                self.check_not_possible("contradictory", verdict, problem, 0, "before", 1)

    def test_wrong_arguments_come_ahead_of_contradictory(self):
        for problem in CONTRADICTORY:
            size = problem[0]
            for wrong in not_tasks(size):
                self.check_bad("first", open_relations, problem, wrong, 1)
                self.check_bad("second", open_relations, problem, 1, wrong)
                for function in (verdict, evidence_for):
                    self.check_bad("first", function, problem, wrong, "before", 1)
                    self.check_bad("second", function, problem, 1, "before", wrong)
                    self.check_bad("second", function, problem, 1, AFTER[0], 1)
            for wrong in NOT_RELATIONS:
                for function in (verdict, evidence_for):
                    self.check_bad("relation", function, problem, 0, wrong, 1)
                    self.check_bad("relation", function, problem, 0, wrong, 0)

    def test_lists_are_not_modified(self):
        problem = [3, [(0, ["before"], 1)]]
        value = ["always", [0, 1]]
        self.check_bad("problem", implied_rules, problem)
        self.assertIs(accepts_verdict(VERDICTS, 1, "after", 0, value), False)
        self.assertEqual((problem, value), ([3, [(0, ["before"], 1)]], ["always", [0, 1]]))


if __name__ == "__main__":
    unittest.main()
