"""What the fields of a calm filling tell of one another."""

from echofields.errors import BadFields, NoField
from echofields.forms import fillings, is_filling, rests_at
from echofields.kinds import is_ascending, is_index, is_tuple_of
from echofields.parts import least_sets, sets_of


def calm_fillings(form):
    """Return the ascending tuple of all calm fillings."""
    return tuple([filling for filling in fillings(form) if rests_at(form, filling)])


def find_telling(form, fields, field):
    """Return what the values at the fields tell of the field, or two calm fillings that show that they don't."""
    _check_fields(form, fields)
    _check_field(form, field)
    calm = calm_fillings(form)
    for one in calm:
        for other in calm:
            if _are_parted(one, other, fields, field):
                return ("parted", one, other)
    # Each of the values has just one value beside it, so these pairs are ascending without anything twice.
    return ("told", tuple(sorted({(_values_at(filling, fields), filling[field]) for filling in calm})))


def telling_holds(form, fields, field, value):
    """Tell whether value is evidence that the fields tell the field, or that they don't."""
    _check_fields(form, fields)
    _check_field(form, field)
    if is_tuple_of(value, 3) and value[0] == "parted":
        _, one, other = value
        return _is_calm_filling(form, one) and _is_calm_filling(form, other) and _are_parted(one, other, fields, field)
    if is_tuple_of(value, 2) and value[0] == "told":
        return _are_told(form, fields, field, value[1])
    return False


def tellers(form, field):
    """Return the ascending tuple of the least sets of other fields that tell the field."""
    _check_field(form, field)
    calm = calm_fillings(form)
    others = [other for other in range(len(form[0])) if other != field]
    return least_sets([fields for fields in sets_of(others) if _do_tell(calm, fields, field)])


def least_keys(form):
    """Return the ascending tuple of the least sets of fields that tell all fields."""
    calm = calm_fillings(form)
    every = range(len(form[0]))
    return least_sets([
        fields for fields in sets_of(list(every)) if all([_do_tell(calm, fields, field) for field in every])
    ])


def least_differences(form):
    """Return the ascending tuple of the least sets of all fields at which two calm fillings differ."""
    calm = calm_fillings(form)
    return least_sets(sorted({_differences(one, other) for one in calm for other in calm if one != other}))


def _check_fields(form, fields):
    if not isinstance(fields, tuple) or not all([is_index(field, len(form[0])) for field in fields]):
        raise BadFields(fields)
    if not is_ascending(fields):
        raise BadFields(fields)


def _check_field(form, field):
    if not is_index(field, len(form[0])):
        raise NoField(field)


def _values_at(filling, fields):
    return tuple([filling[field] for field in fields])


def _are_parted(one, other, fields, field):
    """Tell whether two fillings have the same values at the fields, but not at the field."""
    return one[field] != other[field] and _values_at(one, fields) == _values_at(other, fields)


def _do_tell(calm, fields, field):
    return not any([_are_parted(one, other, fields, field) for one in calm for other in calm])


def _differences(one, other):
    return tuple([field for field in range(len(one)) if one[field] != other[field]])


def _is_calm_filling(form, value):
    return is_filling(form, value) and rests_at(form, value)


def _are_told(form, fields, field, value):
    """Tell whether value has rows of values and a value, among them what each calm filling has there."""
    if not isinstance(value, tuple) or not all([_is_told(form, fields, field, row) for row in value]):
        return False
    # Where the values rise from row to row, so do the rows, and none of the values stands twice.
    if not is_ascending([values for values, _ in value]):
        return False
    known = {row: True for row in value}
    return all([(_values_at(filling, fields), filling[field]) in known for filling in calm_fillings(form)])


def _is_told(form, fields, field, value):
    """Tell whether value is a pair of a tuple with a value of each of the fields, and a value of the field."""
    if not is_tuple_of(value, 2) or not is_tuple_of(value[0], len(fields)):
        return False
    values, item = value
    sizes = form[0]
    return is_index(item, sizes[field]) and all([
        is_index(values[place], sizes[fields[place]]) for place in range(len(fields))
    ])
