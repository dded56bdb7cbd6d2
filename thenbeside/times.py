"""When the tasks of a plan begin, how long the plan takes, and what shows that it takes so long."""

from thenbeside.basics import are_indexes, is_index, is_integer, require
from thenbeside.plans import checked_size, relation_in, turned_of

MOST_DURATION = 99
MOST_LENGTH = 1000


def starts(plan, durations):
    """Return the tuple of the times at which the tasks begin as soon as they can."""
    check_durations(plan, durations)
    return starts_in(plan, durations)


def length(plan, durations):
    """Return the greatest end of a task, if each begins as soon as it can."""
    check_durations(plan, durations)
    return length_in(plan, durations)


def slacks(plan, durations):
    """Return the tuple of how much later each task can begin without making the plan longer."""
    check_durations(plan, durations)
    whole = length_in(plan, durations)
    early = starts_in(plan, durations)
    # The latest end of a task is as far ahead of the length as its start in the turned plan is behind 0.
    behind = starts_in(turned_of(plan), durations)
    return tuple([whole - behind[task] - durations[task] - early[task] for task in range(len(durations))])


def told_chain(plan, durations):
    """Return the first one of the chains that last as long as the plan."""
    check_durations(plan, durations)
    return longest_chain(plan, durations)


def length_grounds(plan, durations):
    """Return the pair of the starts and the told chain: grounds for the length."""
    check_durations(plan, durations)
    return (starts_in(plan, durations), longest_chain(plan, durations))


def accepts_length(plan, durations, number, value):
    """Tell whether the judge accepts the value as grounds for the number to be the length."""
    check_durations(plan, durations)
    require(is_index(number, MOST_LENGTH + 1), "number")
    if not isinstance(value, tuple) or len(value) != 2:
        return False
    times, row = value
    if not are_times(times, len(durations)) or not is_chain(plan, row, len(durations)):
        return False
    if not times_fit(plan, durations, times) or duration_of(row, durations) != number:
        return False
    return all([time + lasting <= number for time, lasting in zip(times, durations)])


def check_durations(plan, durations):
    """Raise BadValue unless the plan is one, and the durations are some for it."""
    size = checked_size(plan)
    require(isinstance(durations, tuple) and len(durations) == size, "durations")
    require(all(is_duration(lasting) for lasting in durations), "durations")


def is_duration(value):
    """Tell whether the value tells how long a task can last."""
    return is_integer(value) and 1 <= value <= MOST_DURATION


def are_times(value, size):
    """Tell whether the value is a tuple with a time for each of so many tasks."""
    if not isinstance(value, tuple) or len(value) != size:
        return False
    return all(is_integer(time) and time >= 0 for time in value)


# The functions below are given plans, and parts of plans, that have been checked; durations are for the whole plan.


def is_chain(plan, value, size):
    """Tell whether the value, whatever it is, is a chain of the plan, which has so many tasks."""
    if not are_indexes(value, size) or not 1 <= len(value) <= size:
        return False
    return all([is_before(plan, task, later) for task, later in zip(value, value[1:])])


def is_before(plan, first, second):
    """Tell whether the first task is before the second one; no task is before itself."""
    return first != second and relation_in(plan, first, second) == "before"


def times_fit(plan, durations, times):
    """Tell whether each task begins when all tasks before it have ended, or later."""
    pairs = [(task, later) for task in range(len(times)) for later in range(len(times))]
    return all(times[task] + durations[task] <= times[later] for task, later in pairs if is_before(plan, task, later))


def duration_of(row, durations):
    """Return the sum of what the tasks of the row last."""
    return sum(durations[task] for task in row)


def length_in(plan, durations):
    """Return the length of the plan."""
    if isinstance(plan, int):
        return durations[plan]
    word, parts = plan
    lengths = [length_in(piece, durations) for piece in parts]
    return sum(lengths) if word == "then" else max(lengths)


def starts_in(plan, durations):
    """Return the tuple of the starts of all tasks of the plan."""
    found = [0] * len(durations)
    waiting = [(plan, 0)]
    while waiting:
        item, begin = waiting.pop()
        if isinstance(item, int):
            found[item] = begin
            continue
        for piece in item[1]:
            waiting.append((piece, begin))
            if item[0] == "then":
                begin += length_in(piece, durations)
    return tuple(found)


def longest_chain(plan, durations):
    """Return the first one of the chains of the plan that last longest."""
    if isinstance(plan, int):
        return (plan,)
    word, parts = plan
    rows = [longest_chain(piece, durations) for piece in parts]
    if word == "then":
        # None of the longest chains of a part begins with another one: so the first ones make up the first one.
        return tuple([task for row in rows for task in row])
    most = max([duration_of(row, durations) for row in rows])
    return min([row for row in rows if duration_of(row, durations) == most])
