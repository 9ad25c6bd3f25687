"""Sets, told as ascending tuples, and their parts."""


def sets_of(items):
    """Return the list of all sets of some ascending items, a set standing behind all its parts."""
    sets = [()]
    for item in items:
        sets = sets + [row + (item,) for row in sets]
    return sets


def is_part(one, other):
    """Tell whether all items of one set are items of the other one."""
    return all([item in other for item in one])


def least_sets(sets):
    """Return the ascending tuple of those of some different sets that have no other one of them as a part."""
    return tuple(sorted([row for row in sets if not any([other != row and is_part(other, row) for other in sets])]))


def greatest_sets(sets):
    """Return the ascending tuple of those of some different sets that are no part of another one of them."""
    return tuple(sorted([row for row in sets if not any([other != row and is_part(row, other) for other in sets])]))
