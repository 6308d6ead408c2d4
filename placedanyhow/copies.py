"""Copies of what callers may change later."""


def copied(part):
    """A copy of a value that shares no list and no dict with it."""
    if isinstance(part, list):
        return [copied(inner) for inner in part]
    if isinstance(part, tuple):
        return tuple([copied(inner) for inner in part])
    if isinstance(part, dict):
        return {key: copied(part[key]) for key in part}
    return part
