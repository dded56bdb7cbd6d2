"""Values that differ from a right one in one thing."""


def places(many):
    """The first, the middle and the last one of so many places."""
    return sorted({0, many // 2, many - 1}) if many else []


def changed_values(value):
    """Give values with one thing changed, left out or put in, in the first, the middle and the last place."""
    if not isinstance(value, tuple):
        yield from changed_items(value)
        return
    yield list(value)
    yield (value,)
    yield None
    for at in places(len(value)):
        for other in changed_values(value[at]):
            yield (*value[:at], other, *value[at + 1:])
        yield (*value[:at], *value[at + 1:])
        if at:
            yield (*value[:at - 1], value[at], value[at - 1], *value[at + 1:])
    for at in places(len(value) + 1):
        for new in (*value[at:at + 1], *value[at - 1:at], 0, (), None, "beside", (0, 1)):
            yield (*value[:at], new, *value[at:])


def changed_items(item):
    """Give values other than the item, which is no tuple, some of them equal to it."""
    yield from (None, (), (item,), [item], True, False)
    if isinstance(item, str):
        words = ("then", "beside", "before", "after", "plan", "set", "always", "never", "sometimes", "gap", "N", "add",
                 "drop", "put", "", item + " ", item.upper(), item[:-1], 0)
        yield from (word for word in words if word != item)
    elif isinstance(item, int):
        yield from (item + 1, item - 1, float(item), str(item), -1, 7, 20, 10 ** 30)
        yield from (other for other in range(7) if other != item)
