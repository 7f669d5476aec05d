"""Copies of what objects are given."""


def as_tuples(value):
    """The value with its lists as tuples at every depth; dicts are made anew, objects stay as they are."""
    if isinstance(value, (list, tuple)):
        return tuple([as_tuples(part) for part in value])
    if isinstance(value, dict):
        return {key: as_tuples(value[key]) for key in value}
    return value
