"""Problems to test with, and what is so of them, told without the program."""

from itertools import combinations, product
from random import Random

from tests.samples import NORMAL_PLANS, PLANS_OF_FIVE, relations_of, sets_of, tasks_of

WORDS = ("before", "beside", "after")
OPPOSITES = {"before": "after", "beside": "beside", "after": "before"}
# The tuples of relations that a rule can list.
LISTS = tuple(words for many in (1, 2, 3) for words in combinations(WORDS, many))

BEFORE, BESIDE, AFTER = ("before",), ("beside",), ("after",)

EXAMPLE = (3, ((0, BEFORE, 1), (2, ("beside", "after"), 1)))
CHAIN = (3, ((0, BEFORE, 1), (1, BEFORE, 2), (0, BEFORE, 2)))
RING = (3, ((0, BEFORE, 1), (1, BEFORE, 2), (2, BEFORE, 0)))
SHAPE = (4, ((0, BEFORE, 2), (1, BEFORE, 2), (1, BEFORE, 3), (0, BESIDE, 1), (0, BESIDE, 3), (2, BESIDE, 3)))
VERDICTS = (3, ((0, BEFORE, 1), (1, ("before", "beside"), 2)))
NOTHING_LEFT = (4, ((0, ("before", "beside"), 3), (3, BEFORE, 0), (1, BESIDE, 2)))

HAND_MADE = (
    (1, ()), (2, ()), (3, ()), (4, ()), (5, ()), (6, ()), (7, ()),
    EXAMPLE, CHAIN, RING, SHAPE, VERDICTS, NOTHING_LEFT,
    (2, ((0, BEFORE, 1),)), (2, ((1, BEFORE, 0),)), (2, ((1, BESIDE, 0),)), (2, ((0, BEFORE, 1), (0, BESIDE, 1))),
    (2, ((0, WORDS, 1),)), (2, ((0, ("before", "after"), 1), (1, ("before", "beside"), 0))),
    # Several rules about the same two tasks, in both sequences.
    (3, ((2, ("before", "beside"), 0), (0, ("beside", "after"), 2), (0, ("before", "beside"), 2), (1, WORDS, 0))),
    (4, ((3, WORDS, 1), (1, ("before", "after"), 3), (3, ("before", "after"), 1), (0, AFTER, 2), (2, BEFORE, 0))),
    # A rule for each two of five and of six tasks, and 20 rules for seven.
    (5, tuple((x, ("before", "beside"), y) for x in range(5) for y in range(x + 1, 5))),
    (6, tuple((y, ("beside", "after"), x) for x in range(6) for y in range(x + 1, 6))),
    (5, tuple((x, BEFORE, (x + 1) % 5) for x in range(5))),
    (6, tuple((x, BEFORE, (x + 1) % 6) for x in range(6))),
    (7, tuple((x, BEFORE, (x + 1) % 7) for x in range(7))),
    (7, tuple((x, BEFORE, y) for x in range(7) for y in range(x + 1, 7))[:20]),
    (7, tuple((x, ("before", "after"), y) for x in range(7) for y in range(x + 1, 7))[1:]),
    (7, ((0, BEFORE, 6),) * 20),
    (7, tuple((x, WORDS, x + 1) for x in range(6)) + SHAPE[1]),
    (7, tuple((x + 3, words, y + 3) for x, words, y in SHAPE[1]) + ((6, AFTER, 0),)),
)


def drawn(seed, size, many, lists=LISTS):
    """A problem with so many rules of these lists; it is the same one for each seed."""
    source = Random(seed)
    rules = []
    for _ in range(many if size > 1 else 0):
        first = source.randrange(size)
        second = source.randrange(size - 1)
        rules.append((first, lists[source.randrange(len(lists))], second + (second >= first)))
    return (size, tuple(rules))


def kept_by_plan(seed, plan, many, longest=2):
    """A problem with so many rules of at most so many relations that the plan keeps; the same one for each seed."""
    source = Random(seed)
    told = relations_of(plan)
    rules = []
    for _ in range(many):
        first, second = sorted(told)[source.randrange(len(told))]
        fitting = [words for words in LISTS if told[first, second] in words and len(words) <= longest]
        rules.append((first, fitting[source.randrange(len(fitting))], second))
    return (len(tasks_of(plan)), tuple(rules))


def of_table(plan, changed=None):
    """A problem whose rules are relations of the tasks in the plan, at most 20; of two tasks it is another one."""
    told = relations_of(plan)
    pairs = [(x, y) for x, y in sorted(told) if x < y][:20]
    words = {pair: told[pair] for pair in pairs}
    if changed in words:
        words[changed] = WORDS[(WORDS.index(words[changed]) + 1) % 3]
    return (len(tasks_of(plan)), tuple((x, (words[x, y],), y) for x, y in pairs))


def all_of_three_tasks():
    """For three tasks, a problem for each choice of allowed relations, none included."""
    pairs = ((0, 1), (0, 2), (1, 2))
    for choice in product(((), *LISTS), repeat=3):
        rules = []
        for (x, y), words in zip(pairs, choice):
            if not words:
                rules.extend([(x, BEFORE, y), (x, AFTER, y)])
            elif words != WORDS:
                rules.append((x, words, y))
        yield (3, tuple(rules))


def choices(problem):
    """The relations that all rules on two tasks allow, a dict with a pair of tasks as each key."""
    size, rules = problem
    found = {(x, y): set(WORDS) for x in range(size) for y in range(size) if x != y}
    for first, words, second in rules:
        found[first, second] &= set(words)
        found[second, first] &= {OPPOSITES[word] for word in words}
    return found


def is_kept_by(problem, told):
    """Whether relations, a dict, keep all rules of the problem."""
    return all(told[first, second] in words for first, words, second in problem[1])


TOLD = {size: [] for size in range(1, 6)}
for normal_plan in (*NORMAL_PLANS, *PLANS_OF_FIVE):
    TOLD[len(tasks_of(normal_plan))].append((normal_plan, relations_of(normal_plan)))


def kept_plans(problem):
    """The list of the normal plans, of five tasks at most, that keep the problem."""
    return [plan for plan, told in TOLD[problem[0]] if is_kept_by(problem, told)]


def splits_of(problem, chosen):
    """The ascending list of the splits of the chosen set."""
    found = choices(problem)
    result = []
    for part in sets_of(problem[0]):
        rest = tuple(task for task in chosen if task not in part)
        if set(part) < set(chosen):
            for word, needed in (("beside", "beside"), ("then", "before")):
                if all(needed in found[x, y] for x in part for y in rest):
                    result.append((word, part, rest))
    return sorted(result)


def stuck_sets(problem):
    """The list of the stuck sets: those of two or more tasks that have no split, the ones with fewer tasks first."""
    return [chosen for chosen in sets_of(problem[0], 2) if not splits_of(problem, chosen)]


def with_rule(problem, *rule):
    """The problem with a further rule, which may be its 21st one."""
    return (problem[0], (*problem[1], rule))


def others(words):
    """The tuple of the relations that are not among the words."""
    return tuple(word for word in WORDS if word not in words)


def by_indexes(problem, indexes):
    """The problem with the rules of these indexes alone."""
    return (problem[0], tuple(problem[1][index] for index in indexes))


ALL_OF_THREE = tuple(all_of_three_tasks())
OF_FOUR = tuple(drawn(seed, 4, 2 + seed % 9) for seed in range(120)) + tuple(
    drawn(seed, 4, 6, LISTS[3:6]) for seed in range(40))
# Problems of up to four tasks: all their plans can be gone through.
SMALL = tuple(problem for problem in HAND_MADE if problem[0] < 5) + ALL_OF_THREE + OF_FOUR
# Problems of five tasks, each with a look at some thousand plans.
OF_FIVE = tuple(problem for problem in HAND_MADE if problem[0] == 5) + tuple(
    drawn(seed, 5, 3 + seed % 8) for seed in range(16))
# Problems of six and seven tasks, among them some with 20 rules.
LARGE = tuple(problem for problem in HAND_MADE if problem[0] > 5) + tuple(
    drawn(seed, 6 + seed % 2, 2 + seed % 19, (LISTS, LISTS[3:], LISTS[1:5])[seed % 3]) for seed in range(60))
