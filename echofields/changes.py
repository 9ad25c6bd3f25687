"""Changes of a form, told as tuples of a word and what it needs."""

from echofields.bounds import MAX_LINKS
from echofields.errors import BadLink, NoGuard, NoItem, NoLink, NoValue, TooMany
from echofields.forms import is_guard, left_out, link_error
from echofields.kinds import is_index


def with_link(form, link):
    """Return the form with a link behind the others."""
    sizes, links = form
    if len(links) >= MAX_LINKS:
        raise TooMany(MAX_LINKS)
    _check_link(form, link)
    return (sizes, links + (link,))


def without_link(form, index):
    """Return the form without one of its links."""
    _check_index(form, index)
    return left_out(form, (index,))


def with_other_link(form, index, link):
    """Return the form with a link in the place of one of its links."""
    _check_index(form, index)
    _check_link(form, link)
    return _put(form, index, link)


def with_guard(form, index, guard):
    """Return the form with another guard of one of its links."""
    _check_index(form, index)
    if not is_guard(guard):
        raise NoGuard(guard)
    source, target, table, _ = form[1][index]
    return _put(form, index, (source, target, table, guard))


def with_item(form, index, value, item):
    """Return the form with another item, for a value of the source, in the table of one of its links."""
    _check_index(form, index)
    source, target, table, guard = form[1][index]
    if not is_index(value, form[0][source]):
        raise NoValue(value)
    if item is not None and not is_index(item, form[0][target]):
        raise NoItem(item)
    return _put(form, index, (source, target, table[:value] + (item,) + table[value + 1:], guard))


ACTIONS = {
    "add": with_link, "drop": without_link, "set": with_other_link, "guard": with_guard, "entry": with_item,
}
LENGTHS = {"add": 2, "drop": 2, "set": 3, "guard": 3, "entry": 4}


def is_change(value):
    """Tell whether value is a tuple of the word for a change and as many further items as this one needs."""
    if not isinstance(value, tuple) or value == () or not isinstance(value[0], str):
        return False
    return len(value) == LENGTHS.get(value[0])


def changed(form, change):
    """Return the form behind a change, or raise the error for what it cannot be done with."""
    word, *given = change
    action = ACTIONS[word]
    return action(form, *given)


def _check_index(form, index):
    if not is_index(index, len(form[1])):
        raise NoLink(index)


def _check_link(form, link):
    error = link_error(form[0], link)
    if error is not None:
        raise BadLink(error)


def _put(form, index, link):
    sizes, links = form
    return (sizes, links[:index] + (link,) + links[index + 1:])
