"""What several modules share: the bound of the tasks, the relations, and checks of simple values."""

from itertools import combinations

from thenbeside.errors import BadValue

MOST_TASKS = 7
RELATIONS = ("before", "beside", "after")
OPPOSITES = {"before": "after", "beside": "beside", "after": "before"}


def require(holds, name):
    """Raise BadValue with the name of an argument, unless what is asked of the argument holds."""
    if not holds:
        raise BadValue(name)


def is_integer(value):
    """Tell whether the value is an integer."""
    # To Python, True and False are integers, too.
    return isinstance(value, int) and not isinstance(value, bool)


def is_size(value):
    """Tell whether the value is a number of tasks that a plan can have."""
    return is_integer(value) and 1 <= value <= MOST_TASKS


def is_index(value, many):
    """Tell whether the value is the index of one of so many things; each task is such an index, too."""
    return is_integer(value) and 0 <= value < many


def are_indexes(value, many):
    """Tell whether the value is a tuple in which each item is the index of one of so many things."""
    return isinstance(value, tuple) and all(is_index(item, many) for item in value)


def is_set(value, many):
    """Tell whether the value is an ascending tuple of different indexes below so many; it may be empty."""
    return are_indexes(value, many) and list(value) == sorted(set(value))


def is_order(value, many):
    """Tell whether the value is a tuple that contains each index below so many exactly once."""
    return are_indexes(value, many) and sorted(value) == list(range(many))


def sets_of(tasks, least, most):
    """Return the list of the sets of so many of the tasks, those of fewer tasks first, then in order."""
    standing = list(tasks)
    found = []
    for many in range(least, most + 1):
        found.extend(list(combinations(standing, many)))
    return found


def without(chosen, left_out):
    """Return the tuple of the chosen ones that are not left out."""
    return tuple([item for item in chosen if item not in left_out])
