"""What several modules share: the bound of the tasks, the relations, and checks of simple values."""

from thenbeside.errors import BadValue

MOST_TASKS = 7
RELATIONS = ("before", "beside", "after")
OPPOSITES = {"before": "after", "beside": "beside", "after": "before"}


def require(holds, name):
    """Raise BadValue with the name of an argument, unless what is asked of the argument holds."""
    if not holds:
        raise BadValue(name)


def is_integer(value):
    """Tell whether the value is an integer."""
    # To Python, True and False are integers, too.
    return isinstance(value, int) and not isinstance(value, bool)


def is_size(value):
    """Tell whether the value is a number of tasks that a plan can have."""
    return is_integer(value) and 1 <= value <= MOST_TASKS


def is_task(value, size):
    """Tell whether the value is one of so many tasks."""
    return is_integer(value) and 0 <= value < size


def are_tasks(value, size):
    """Tell whether the value is a tuple in which each item is one of so many tasks."""
    return isinstance(value, tuple) and all(is_task(item, size) for item in value)


def is_set(value, size):
    """Tell whether the value is an ascending tuple of different ones of so many tasks; it may be empty."""
    return are_tasks(value, size) and list(value) == sorted(set(value))


def is_order(value, size):
    """Tell whether the value is a tuple that contains each of so many tasks exactly once."""
    return are_tasks(value, size) and sorted(value) == list(range(size))
