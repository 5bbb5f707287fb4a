"""Places put together into groups."""


def grouped(many, belong):
    """Return the ascending list of the groups of the places below a number.

    Places belong together or not as a function of two places tells. It has to
    agree with itself: a place is compared with the first of each group alone.
    """
    groups = []
    for place in range(many):
        home = [group for group in groups if belong(group[0], place)]
        if len(home) == 0:
            groups.append([place])
        else:
            home[0].append(place)
    return groups
