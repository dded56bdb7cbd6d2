"""Wrong values for the arguments of the functions, and a test case that passes them."""

import unittest
from itertools import combinations

from thenbeside.errors import BadValue, NotPossible, PlanError


def deep(levels):
    """A value with so many levels of "then" and "beside"."""
    value = 0
    for level in range(levels):
        value = (("then", "beside")[level % 2], (value, level + 1))
    return value


def shared(levels):
    """A value in which each level has the one below it twice."""
    value = ("then", (0, 1))
    for level in range(levels):
        value = (("beside", "then")[level % 2], (value, value))
    return value


NOT_INTEGERS = (True, False, None, "0", "", "then", (), (0,), [], [0], 0.0, 1.0, b"0", {})
NOT_SIZES = (*NOT_INTEGERS, 0, -1, 8, 9, 10 ** 30)
NOT_TUPLES = (True, False, None, "", "0", "01", 0, 1, 2, -1, [], [0], [0, 1], [0, 1, 2], 0.0, b"", {}, {0: 0})

# Not plans for any size from 1 to 7.
NOT_PLANS = (
    True, False, None, "", "then", "0", 0.0, 1, 6, 7, -1, (), [], [0], (0,), (0, 1), {}, b"then",
    ("then",), ("then", ()), ("beside", ()), ("then", (0,)), ("beside", (0,)), ("then", 0), ("then", None),
    ("then", "01"), ("then", [0, 1]), ("beside", [0, 1]), ["then", (0, 1)], ["beside", (0, 1)],
    ("then", (0, 1), 2), ("then", (0, 1), ()), ("then", 0, 1), ((0, 1), "then"), ((0, 1),), ("beside", {0: 0, 1: 1}),
    ("Then", (0, 1)), ("before", (0, 1)), ("after", (0, 1)), ("same", (0, 1)), ("", (0, 1)), (0, (0, 1)),
    (None, (0, 1)), (b"then", (0, 1)), (["then"], (0, 1)), (("then",), (0, 1)), (True, (0, 1)),
    ("then", (0, True)), ("then", (False, 1)), ("beside", (True, 0)), ("beside", (0, None)), ("then", (0, "1")),
    ("then", (0, 1.0)), ("then", ((0,), 1)), ("then", ([0], 1)), ("beside", ((), 0)),
    ("then", (0, 0)), ("then", (1, 1)), ("then", (0, 2)), ("beside", (0, 2)), ("beside", (1, 2)), ("beside", (0, -1)),
    ("then", (0, 1, 1)), ("then", (0, ("beside", (1, 1)))), ("then", (0, ("beside", (0, 1)))),
    ("then", (0, ("beside", (1, 3)))), ("then", (("beside", (1, 2)), 3)),
    ("then", (("then", (0, 1)), 2)), ("then", (0, ("then", (1, 2)))), ("beside", (("beside", (0, 1)), 2)),
    ("beside", (0, ("beside", (1, 2)))), ("then", (("beside", (("beside", (0, 1)), 2)), 3)),
    ("beside", (("then", (("then", (0, 1)), 2)), 3)), ("then", (0, ("then", (1,)))),
    ("then", (0, ("beside", (1,)))), ("then", (0, ("beside", ()))), ("then", (("beside", (0,)), 1)),
    ("beside", (0, ["then", (1, 2)])), ("beside", (0, ("then", [1, 2]))), ("beside", (0, ("then", (1, 2), ()))),
    ("then", (0, 1, 2, 3, 4, 5, 6, 7)), ("beside", (0, 1, 2, 3, 4, 5, 6, 7)),
    ("then", (0, ("beside", (1, 2, 3, ("then", (4, ("beside", (5, 6, 7)))))))),
    ("then", (0, 1, 2, 3, 4, 5, 7)), ("then", (1, 2, 3, 4, 5, 6, 7)),
    ("then", (0,) * 100000), ("beside", tuple(range(100000))), deep(7), deep(5000), shared(100),
)

NOT_WORDS = (True, False, None, 0, 1, "", "Then", "THEN", "before", "after", "same", "then ", "and", ("then",),
             ["then"], ("then", "beside"), b"then", "thenbeside", "the", {})

# Not tables for any size from 1 to 7.
NOT_TABLES = (
    True, False, None, 0, 1, "same", "", (), [], ("same",), (["same"],), [("same",)], [["same"]], ((),),
    (("same",), ()), {0: ("same",)}, ({0: "same"},), ((None,),), ((True,),), ((0,),), (("Same",),), (("before",),),
    (("beside",),),
    ((("same",),),), (("same", "same"),), (("same",), ("same",)), (("same", "before"),),
    (("same", "beside"), ("beside",)),
    (("same", "before"), ("before", "same")), (("same", "after"), ("after", "same")),
    (("same", "before"), ("beside", "same")), (("same", "beside"), ("after", "same")),
    (("same", "beside"), ("before", "same")), (("same", "same"), ("same", "same")),
    (("before", "same"), ("same", "after")), (("beside", "beside"), ("beside", "beside")),
    (("same", "before"), ("after", "before")), (("same", "next"), ("next", "same")), (("same", None), (None, "same")),
    (("same", 0), (0, "same")), (("same", ["beside"]), (["beside"], "same")), (("same", True), (True, "same")),
    (("same", "beside"), ["beside", "same"]), [("same", "beside"), ("beside", "same")],
    (("same", "beside"), ("beside", "same"), ()), (("same", "beside", "beside"), ("beside", "same", "beside")),
    (("same", "beside"), ("beside", "same"), ("beside", "beside")),
    (("same", "beside", ()), ("beside", "same", ()), ((), (), "same")),
    (("same", "before", "before"), ("after", "same", "before"), ("after", "before", "same")),
    tuple(tuple("same" if x == y else "beside" for x in range(8)) for y in range(8)),
    tuple(tuple("same" if x == y else "beside" for x in range(7)) for y in range(8)),
    tuple(tuple("same" if x == y else "beside" for x in range(8)) for y in range(7)),
    (("same",) * 100000,), (("same",),) * 100000, (deep(5000),), ((deep(5000),),), deep(5000),
)

NOT_RELATIONS = (True, False, None, 0, 1, "", "Before", "BESIDE", "before ", "then", "same", "bef", "beforebeside",
                 ("before",), ["before"], ("before", "after"), b"before", {}, deep(5000))

# Not rules of four tasks.
NOT_RULES = (
    True, False, None, 0, 1, "", "before", (), [], {}, (0,), (0, 1), (0, ("before",)), (0, "before", 1),
    [0, ("before",), 1], (0, ["before"], 1), (0, ("before",), 1, 2), (0, ("before",), 1, ()), (("before",), 0, 1),
    (0, 1, ("before",)), (0, (), 1), (0, None, 1), (0, 0, 1), (0, True, 1), (0, {"before": 0}, 1),
    (0, ("after", "before"), 1), (0, ("beside", "before"), 1), (0, ("after", "beside"), 1),
    (0, ("after", "beside", "before"), 1), (0, ("before", "after", "beside"), 1), (0, ("before", "before"), 1),
    (0, ("before", "beside", "beside"), 1), (0, ("before", "beside", "after", "after"), 1),
    (0, ("before", "beside", "after", "same"), 1), (0, ("same",), 1), (0, ("Before",), 1), (0, ("then",), 1),
    (0, ("before", "then"), 1), (0, ("before", None), 1), (0, ("before", True), 1), (0, (["before"],), 1),
    (0, (("before",),), 1), (0, (b"before",), 1), (0, (None,), 1), (0, ("before",) * 100000, 1),
    (0, ("before",), 0), (3, ("beside",), 3), (0, ("before",), 4), (4, ("before",), 0), (-1, ("before",), 1),
    (0, ("before",), -1), (0, ("before",), True), (False, ("before",), 1), (True, ("before",), 0),
    (0, ("before",), None), (None, ("before",), 1), ("0", ("before",), 1), (0, ("before",), "1"),
    (0.0, ("before",), 1), (0, ("before",), 1.0), ((0,), ("before",), 1), (0, ("before",), (1,)),
    (0, ("before",), 10 ** 30), (deep(5000), ("before",), 1), (0, (deep(5000),), 1), (0, deep(5000), 1), deep(5000),
)

RULE = (0, ("before",), 1)

# Not problems.
NOT_PROBLEMS = (
    True, False, None, 0, 3, "", "problem", (), [], {}, (3,), [3, ()], (3, (), ()), ((), 3), (3, ((), ())), (3, []),
    (3, None), (3, ""), (3, 0), (3, True), (3, {}), (3, "rules"), (3, RULE), (3, [RULE]), [3, (RULE,)], (3, {RULE: 0}),
    *((size, ()) for size in NOT_SIZES), (1, (RULE,)), (1, ((0, ("before",), 0),)), (2, ((1, ("before",), 2),)),
    (8, (RULE,)), (True, (RULE,)), (4, (RULE,) * 21), (7, (RULE,) * 100000), (4, (None,) * 20),
    (7, ((0, ("before",), 7),)), (deep(5000), ()), (4, deep(5000)), deep(5000), shared(100),
    *((4, (rule,)) for rule in NOT_RULES), *((4, (RULE, rule)) for rule in NOT_RULES),
    *((4, (rule, RULE)) for rule in NOT_RULES[::3]), (4, (*(RULE,) * 19, (0, ("before",), 4))),
)

# Values for judges; none of them is right for any question.
ANY_VALUES = (
    *NOT_INTEGERS, 1, -1, "gap", "N", "plan", "set", "always", "never", "sometimes", "beside", ("gap",), ("N",),
    ("plan",), ("set",), ("always",), ("then",), ("plan", None), ("set", None), ("set", ()), ("set", []),
    ("plan", []), ("plan", True), ("set", True), ("plan", ()), ("always", ()), ("never", ()), ("always", None),
    ("sometimes", None, None), ("sometimes", (), ()), ("then", (), ()), ("beside", (), ()), ("then", None, None),
    ("beside", [0], [1]), ("then", [0], [1]), ["beside", (0,), (1,)], ["gap", 0, 1, 2], ["set", (0, 1)],
    ("gap", 0), ("gap", None, None, None), ("N", None, None, None, None), ("gap", deep(9), 0, 1), ((), (), ()),
    ((), ()), ([], [], []), (None, None, None), ((None,), (None,), (None,)), (((),), ((),), ((),)),
    ((((),),), (((),),), (((),),)), (("0", "1"),) * 3, ((("0", "1"),),) * 3, ("set", deep(5000)), ("plan", deep(5000)),
    ("plan", shared(100)), ("always", deep(5000)), ("sometimes", deep(5000), shared(100)), ("then", deep(5000), (0,)),
    deep(5000), shared(100), (0,) * 100000, tuple(range(100000)), ("set", (0,) * 100000), ((0,) * 100000,) * 3,
    ((deep(5000),),) * 3, (((deep(5000), 0),),) * 3, ("gap", 10 ** 30, 0, 1), {"set": (0, 1)}, b"set", ("SET", (0, 1)),
)


def not_tasks(size):
    """Values that are not one of so many tasks."""
    return (*NOT_INTEGERS, -1, size, size + 1, 10 ** 30)


def not_ascending(size):
    """Values that are not an ascending tuple of different ones of so many tasks, two or more."""
    return (*NOT_TUPLES, (True,), (False,), (False, True), (0, True), (None,), ("0",), (0.0,), ((0,),), ([0],),
            (0, 0), (1, 1), (1, 0), (0, 1, 1), (-1,), (-1, 0), (size,), (0, size), (0, 10 ** 30),
            (size - 1, 0), (0, None), tuple(range(size + 1)), (0,) * 100000, deep(5000), (deep(5000),))


def not_orders(size):
    """Values that are not a tuple that contains each of so many tasks exactly once; so many is three or more."""
    tasks = tuple(range(size))
    return (*NOT_TUPLES, list(tasks), (), tasks[1:], tasks[:-1], (*tasks, size), (*tasks, 0), (0,) * size,
            (*tasks[:-1], size), (*tasks[:-1], 0), (-1, *tasks[1:]), (0, True, *tasks[2:]), (False, *tasks[1:]),
            (0, 1.0, *tasks[2:]), (0, "1", *tasks[2:]), (None, *tasks[1:]), (0, (1,), *tasks[2:]), (tasks,),
            (0,) * 100000, deep(5000), (0, [1], *tasks[2:]), "".join(str(task) for task in tasks))


def snapshot(value, levels=4):
    """What a value contains in its first levels, so that it can be compared later."""
    if levels == 0 or not isinstance(value, (tuple, list)):
        return value
    return [value.__class__.__name__, len(value), [snapshot(item, levels - 1) for item in value[:10]]]


class WrongCase(unittest.TestCase):
    """A test case that calls functions with wrong arguments."""

    def check_bad(self, name, function, *arguments):
        """Check that the call raises BadValue with this name, and that it does not modify its arguments."""
        before = snapshot(arguments)
        with self.assertRaises(BadValue) as caught:
            function(*arguments)
        self.assertEqual(caught.exception.name, name)
        self.assertIsInstance(caught.exception, PlanError)
        self.assertTrue(snapshot(arguments) == before)

    def check_arguments(self, function, *parameters):
        """Check each wrong value of each parameter, which is told by its name, a right value and wrong ones.

        If several arguments are wrong, the first one of them is named."""
        names = [name for name, _, _ in parameters]
        right = [good for _, good, _ in parameters]
        function(*right)
        for at, (name, _, wrongs) in enumerate(parameters):
            for index, wrong in enumerate(wrongs):
                with self.subTest(function=function.__name__, name=name, index=index):
                    self.check_bad(name, function, *right[:at], wrong, *right[at + 1:])
        for many in range(2, len(parameters) + 1):
            for places in combinations(range(len(parameters)), many):
                for shift in range(40):
                    arguments = [parameters[at][2][shift % len(parameters[at][2])] if at in places else right[at]
                                 for at in range(len(parameters))]
                    with self.subTest(function=function.__name__, places=places, shift=shift):
                        self.check_bad(names[places[0]], function, *arguments)

    def check_not_possible(self, why, function, *arguments):
        """Check that the call raises NotPossible with this reason."""
        with self.assertRaises(NotPossible) as caught:
            function(*arguments)
        self.assertEqual(caught.exception.why, why)

    def check_refuses(self, judge, *arguments):
        """Check that the judge refuses values of every kind, and raises no error for them."""
        for index, value in enumerate(ANY_VALUES):
            with self.subTest(judge=judge.__name__, index=index):
                self.assertIs(judge(*arguments, value), False)
