"""Copies of values with new lists and dicts in them."""


def has_list(value):
    """Whether any value is a list or a dict, or a tuple with one in it."""
    if isinstance(value, tuple):
        return any([has_list(part) for part in value])
    return isinstance(value, (list, dict))


def copied(value):
    """The same value with new lists and dicts; tuples without such stay as they are."""
    if isinstance(value, list):
        return [copied(part) for part in value]
    if isinstance(value, dict):
        return {key: copied(value[key]) for key in value}
    if isinstance(value, tuple) and has_list(value):
        return tuple([copied(part) for part in value])
    return value
