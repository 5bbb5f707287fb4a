"""Places put together into groups."""


def home_of(place, groups, belong):
    """Return the group to which a place belongs, None if there is none."""
    for group in groups:
        if belong(group[0], place):
            return group
    return None


def grouped(many, belong):
    """Return the ascending list of the groups of the places below a number.

    Places belong together or not as a function of two places tells. It has to
    agree with itself: a place is compared with the first of a group alone, and
    with no more groups when its own one is found.
    """
    groups = []
    for place in range(many):
        home = home_of(place, groups, belong)
        if home is None:
            groups.append([place])
        else:
            home.append(place)
    return groups
