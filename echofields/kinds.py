"""The kinds of values that all modules ask for: integers and tuples."""


def is_whole(value):
    """Tell whether value is an integer; True and False are none."""
    return value is not True and value is not False and isinstance(value, int)


def are_whole(items):
    """Tell whether all items are integers."""
    for item in items:
        # Evidence has very many of them, so is_whole stands here once more without a call.
        if item is True or item is False or not isinstance(item, int):
            return False
    return True


def is_natural(value):
    """Tell whether value is an integer from 0 on."""
    return is_whole(value) and value >= 0


def is_index(value, many):
    """Tell whether value is an integer from 0 to many - 1."""
    return is_whole(value) and 0 <= value < many


def is_tuple_of(value, many):
    """Tell whether value is a tuple of just so many items."""
    return isinstance(value, tuple) and len(value) == many


def is_ascending(items):
    """Tell whether each item is greater than the one before it; the items are such as can be compared."""
    return all([items[place - 1] < items[place] for place in range(1, len(items))])
