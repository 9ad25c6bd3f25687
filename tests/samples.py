"""Values and forms that several tests share."""

import itertools

from echofields.errors import FieldError


def nested(kind, depth):
    value = kind()
    for _ in range(depth):
        value = kind([value]) if kind is not dict else {"a": value}
    return value


GREAT = 10 ** 39
VERY_GREAT = 10 ** 5000
FREE_WORDS = ["", "0", "a", "form", "ring", "ranks", "\n", "x" * 10000]

# What may be passed where a parameter accepts any value.
ANY_VALUES = [
    None, True, False, 0, 1, 2, 3, 4, 5, 6, 7, 36, 37, -1, -2, GREAT, -GREAT, VERY_GREAT, *FREE_WORDS,
    (), (0,), (0, 0), (0, 1), (0, 1, 0, 1), (None,), (True,), (False, 1), (0, "a"), ((),), tuple(range(20000)),
    [], [0], [0, 1], [None], [[]], {}, {"a": 0}, {"0": 1, "1": 0},
    nested(tuple, 19), nested(list, 19), nested(dict, 19),
]

# A few of them, for what has very many places.
SOME_VALUES = [None, True, False, 0, 2, -1, VERY_GREAT, "", "0", (), (0,), (0, 0), (0, (0, 0), (), ()), [], [0], {"a": 0}]

P = ((2, 2), ((0, 1, (0, 0), 0), (0, 1, (1, 1), 0)))
Q = ((2, 2, 2), ((0, 1, (0, 1), 0), (0, 2, (0, 1), 0), (1, 2, (1, 0), 0)))
S = ((2, 3), ((0, 1, (None, 2), 1),))
T = ((2, 2), ((0, 1, (1, 0), 0), (1, 0, (0, 1), 0)))
U = ((2, 2), ((0, 1, (0, 1), 0), (1, 0, (0, 1), 0)))
V = ((2, 2), ((0, 1, (1, 0), 0), (1, 0, (0, 0), 0)))
C = ((3, 3, 2), ((0, 1, (0, 2, 2), 0), (1, 2, (0, None, 1), 0), (1, 0, (0, 1, 2), 2)))
LONE = ((6,), ())
NO_LINKS = ((2, 3, 6), ())
EMPTY_TABLE = ((3, 2), ((0, 1, (None, None, None), 3),))
TWINS = ((2, 2), ((0, 1, (0, 1), 0), (0, 1, (0, 1), 0)))
FULL = (
    (2, 3, 3, 2),
    (
        (0, 1, (None, 2), 0), (1, 2, (0, 1, 2), 1), (2, 3, (None, None, 1), 2),
        (3, 0, (1, 0), 3), (3, 0, (1, 0), 3), (0, 2, (1, None), 1),
    ),
)
FORMS = [P, Q, S, T, U, V, C, LONE, NO_LINKS, EMPTY_TABLE, TWINS, FULL]

# From here on the names tell how many moments are reached: no run of RESTING is endless, some of TURNING are; from the
# calm beginnings of CALM_3000 alone as many are reached.
RESTING_3000 = (
    (3, 2, 2, 3),
    (
        (2, 1, (1, 0), 2), (2, 3, (2, 1), 1), (3, 2, (0, 0, 1), 0),
        (1, 3, (2, 0), 1), (2, 3, (1, 0), 1), (3, 2, (1, 1, 1), 1),
    ),
)
TURNING_3000 = (
    (3, 2, 2, 2),
    (
        (3, 1, (0, 1), 1), (2, 1, (1, 0), 1), (1, 2, (1, 0), 0),
        (2, 1, (0, 1), 0), (1, 3, (0, 1), 2), (1, 2, (0, 1), 1),
    ),
)
CALM_3000 = (
    (2, 2, 3, 3),
    (
        (0, 2, (None, 2), 0), (2, 0, (0, 0, 0), 1), (0, 2, (None, 0), 0),
        (2, 0, (None, 1, 1), 0), (0, 2, (None, 1), 0), (2, 0, (0, 0, 0), 1),
    ),
)
JUST_3001 = (
    (4, 2, 2, 2),
    (
        (1, 2, (0, 1), 0), (1, 2, (1, 0), 1), (3, 0, (None, 0), 1),
        (2, 1, (0, 1), 2), (2, 3, (1, 0), 0), (3, 2, (0, 1), 0),
    ),
)
ALSO_3001 = (
    (2, 2, 3, 3),
    (
        (3, 0, (0, None, 1), 0), (1, 2, (None, 1), 1), (0, 3, (2, 2), 3),
        (3, 1, (1, 0, None), 0), (1, 3, (0, 1), 0), (0, 3, (2, 1), 0),
    ),
)


def raised(call):
    """Return the error of the package that a call raises, None if it raises none."""
    try:
        call()
    except FieldError as error:
        return error
    return None


def same(one, other):
    """Tell whether two values are equal and of the same kinds throughout, so that 1 is not True."""
    if one.__class__ is not other.__class__:
        return False
    if isinstance(one, (tuple, list)):
        return len(one) == len(other) and all(same(a, b) for a, b in zip(one, other))
    if isinstance(one, dict):
        return list(one) == list(other) and all(same(one[key], other[key]) for key in one)
    return one == other


def is_among(value, others):
    return any(same(value, other) for other in others)


def duplicate(value):
    """Return an equal value of which no tuple, list or dict is the same object (but for empty tuples)."""
    if isinstance(value, (tuple, list)):
        return value.__class__([duplicate(item) for item in value])
    if isinstance(value, dict):
        return {key: duplicate(value[key]) for key in value}
    return value


def places(value):
    """Return the paths to all places in a nested tuple, () for the value itself."""
    found = [()]
    if isinstance(value, tuple):
        for index, item in enumerate(value):
            found.extend((index,) + path for path in places(item))
    return found


def at_place(value, path):
    for index in path:
        value = value[index]
    return value


def put(value, path, item):
    """Return the nested tuple with another item at a place."""
    if not path:
        return item
    index = path[0]
    return value[:index] + (put(value[index], path[1:], item),) + value[index + 1:]


def other_kinds(item):
    """Return what comes close to an item without being it."""
    if isinstance(item, tuple):
        return [list(item), item[:-1], item[1:], item + (0,), item + (None,), item * 2, dict.fromkeys("ab", item)]
    if item is None:
        return [False, 0, "None"]
    if isinstance(item, str):
        return [item + " ", item[:-1], item.upper(), (item,), [item]]
    return [bool(item), item + 1, item - 1, str(item), (item,), [item]]


def spoiled(value, items=ANY_VALUES):
    """Return many variants of a nested tuple: each of its places with all kinds of values."""
    found = []
    for path in places(value):
        for item in other_kinds(at_place(value, path)) + items:
            found.append(put(value, path, item))
    return found


def naive_fillings(form):
    return list(itertools.product(*[range(size) for size in form[0]]))


def skeletons(many_fields, many_links, step=1):
    """Return forms with each choice, or each one so many steps further, of links between fields of size 2."""
    ends = list(itertools.permutations(range(many_fields), 2))
    found = []
    for number in range(0, len(ends) ** many_links, step):
        links = []
        for _ in range(many_links):
            number, index = divmod(number, len(ends))
            links.append(ends[index] + ((None, 1), 0))
        found.append(((2,) * many_fields, tuple(links)))
    return found
