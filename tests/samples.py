"""Plans to test with, and what is so of them, told without the program."""

from itertools import combinations, permutations
from random import Random

# Plans of one to seven tasks, with several levels, and with the parts of "beside" in any sequence.
MIXED_PLANS = (
    0,
    ("then", (1, 0)),
    ("beside", (1, 0)),
    ("beside", (2, ("then", (1, 0)))),
    ("then", (0, ("beside", (("then", (2, 3)), 1)))),
    ("beside", (("then", (4, ("beside", (3, 1)))), ("then", (2, 0)))),
    ("then", (("beside", (5, ("then", (4, 3)))), 2, ("beside", (1, 0)))),
    ("then", (0, 1, 2, 3, 4, 5, 6)),
    ("beside", (6, 5, 4, 3, 2, 1, 0)),
    ("beside", (("then", (6, ("beside", (5, ("then", (4, ("beside", (3, ("then", (2, 1)))))))))), 0)),
    ("then", (("beside", (("then", (3, ("beside", (6, 0)))), 2)), ("beside", (("then", (5, 1)), 4)))),
)


def parted(tasks):
    """Give the tuples of two or more tuples of tasks that have together the given ones, in every sequence."""
    for many in range(1, len(tasks)):
        for block in combinations(tasks, many):
            rest = tuple(task for task in tasks if task not in block)
            yield (block, rest)
            for blocks in parted(rest):
                yield (block, *blocks)


def filled(blocks, word):
    """Give the tuples of a plan for each of the blocks, none of which has the word."""
    if not blocks:
        yield ()
        return
    for plan in plans_of(blocks[0]):
        if isinstance(plan, int) or plan[0] != word:
            for others in filled(blocks[1:], word):
                yield (plan, *others)


def plans_of(tasks):
    """Give all plans of these tasks, also those that are not normal, each one once."""
    if len(tasks) == 1:
        yield tasks[0]
        return
    for word in ("then", "beside"):
        for blocks in parted(tasks):
            for parts in filled(blocks, word):
                yield (word, parts)


def drawn_plan(seed, size):
    """A plan of so many tasks, not always a normal one; it is the same one for each seed."""
    source = Random(seed)
    tasks = list(range(size))
    source.shuffle(tasks)
    return drawn_part(source, tasks, source.randrange(2))


def drawn_part(source, tasks, word):
    """A drawn part of a plan with these tasks, a list, which has this word, told by its index."""
    if len(tasks) == 1:
        return tasks[0]
    ends = sorted(source.sample(range(1, len(tasks)), source.randrange(1, min(len(tasks), 4))))
    pieces = [tasks[start:end] for start, end in zip([0, *ends], [*ends, len(tasks)])]
    return (("then", "beside")[word], tuple(drawn_part(source, piece, 1 - word) for piece in pieces))


def drawn_durations(seed, size):
    """Durations for so many tasks, all of them short, or of every length; they are the same ones for each seed."""
    source = Random(seed)
    return tuple(source.randint(1, (3, 5, 99)[seed % 3]) for _ in range(size))


def tasks_of(plan):
    """The tasks of a plan, as they stand in it."""
    if isinstance(plan, int):
        return (plan,)
    return sum((tasks_of(piece) for piece in plan[1]), ())


def parts_of(plan):
    """The list of all parts of a plan, the plan itself first."""
    if isinstance(plan, int):
        return [plan]
    return [plan] + [part for piece in plan[1] for part in parts_of(piece)]


def relations_of(plan):
    """The relations of all tasks of a plan, a dict with a pair of tasks as each key."""
    told = {}
    if isinstance(plan, int):
        return told
    for piece in plan[1]:
        told.update(relations_of(piece))
    for early, late in combinations(plan[1], 2):
        for x in tasks_of(early):
            for y in tasks_of(late):
                told[x, y], told[y, x] = ("before", "after") if plan[0] == "then" else ("beside", "beside")
    return told


def is_normal(plan):
    """Whether the parts of each "beside" stand in the order of their least tasks."""
    for part in parts_of(plan):
        if not isinstance(part, int) and part[0] == "beside":
            least = [min(tasks_of(piece)) for piece in part[1]]
            if least != sorted(least):
                return False
    return True


def rows_of(plan):
    """The list of the rows of a plan, ascending."""
    told = relations_of(plan)
    return [row for row in permutations(sorted(tasks_of(plan)))
            if all(told[pair] != "after" for pair in combinations(row, 2))]


def sets_of(size, least=1):
    """The list of the ascending tuples of at least so many of the tasks below the size."""
    return [chosen for many in range(least, size + 1) for chosen in combinations(range(size), many)]


def table_from(told, size):
    """The table with the relations of a dict that has a pair of tasks as each key."""
    return tuple(tuple("same" if x == y else told[x, y] for y in range(size)) for x in range(size))


SMALL_PLANS = [plan for size in range(1, 5) for plan in plans_of(tuple(range(size)))]
NORMAL_PLANS = [plan for plan in SMALL_PLANS if is_normal(plan)]
PLANS_OF_FIVE = [plan for plan in plans_of(tuple(range(5))) if is_normal(plan)]
# Plans of one to seven tasks with durations.
TIMED_PLANS = [(plan, drawn_durations(seed, len(tasks_of(plan))))
               for seed, plan in enumerate([*SMALL_PLANS[::3], *PLANS_OF_FIVE[::23], *MIXED_PLANS,
                                            *(drawn_plan(seed, 5 + seed % 3) for seed in range(150))])]
