"""The keys of a field, and rows of keys."""

from fieldoffers.errors import BadKeys

KEYS = ("a", "b", "tab", "blank", "back", "end")
ROW_KEYS = 40


def is_key(value):
    """Tell whether a value is a key."""
    return isinstance(value, str) and value in KEYS


def is_row(value):
    """Tell whether a value is a row: a list of at most 40 keys."""
    if not isinstance(value, list) or len(value) > ROW_KEYS:
        return False
    return all([is_key(key) for key in value])


def all_keys():
    """Return the list of the keys, in order."""
    return list(KEYS)


def check_row(row):
    """Raise BadKeys if a value is not a row."""
    if not is_row(row):
        raise BadKeys("a row is a list of at most 40 keys")
