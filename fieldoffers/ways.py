"""The ways, by which a field offers words and takes keys."""

from fieldoffers.errors import BadWay

CHOICES = ("first", "short", "common")
SINCES = (1, 2)
ACCEPTS = ("tab", "blank", "always")
AGAINS = ("next", "stay")
BACKS = ("offer", "letter", "both")
LEARNS = (0, 1)
FAMILY_WAYS = 8


def is_integer(value):
    """Tell whether a value is an integer: True and False are not accepted as such."""
    return isinstance(value, int) and not isinstance(value, bool)


def is_integer_among(value, numbers):
    """Tell whether a value is an integer that stands among some numbers."""
    return is_integer(value) and value in numbers


def is_string_among(value, strings):
    """Tell whether a value is a string that stands among some strings."""
    return isinstance(value, str) and value in strings


def is_way(value):
    """Tell whether a value is a way."""
    if not isinstance(value, tuple) or len(value) != 6:
        return False
    choice, since, accept, again, back, learn = value
    return (
        is_string_among(choice, CHOICES)
        and is_integer_among(since, SINCES)
        and is_string_among(accept, ACCEPTS)
        and is_string_among(again, AGAINS)
        and is_string_among(back, BACKS)
        and is_integer_among(learn, LEARNS)
    )


def all_ways():
    """Return the list of all ways, ascending by their items."""
    return [
        (choice, since, accept, again, back, learn)
        for choice in CHOICES
        for since in SINCES
        for accept in ACCEPTS
        for again in AGAINS
        for back in BACKS
        for learn in LEARNS
    ]


def check_way(way):
    """Raise BadWay if a value is not a way."""
    if not is_way(way):
        raise BadWay("a way is a tuple (choice, since, accept, again, back, learn)")


def is_family(value):
    """Tell whether a value is a family: a list of 1 to 8 ways."""
    if not isinstance(value, list) or not 1 <= len(value) <= FAMILY_WAYS:
        return False
    return all([is_way(way) for way in value])


def check_family(family):
    """Raise BadWay if a value is not a family."""
    if not is_family(family):
        raise BadWay("a family is a list of 1 to 8 ways")
