"""The texts of forms and fillings."""

from echofields.errors import BadText
from echofields.forms import is_filling, is_form


def form_text(form):
    """Return the text of a form."""
    sizes, links = form
    return " / ".join([filling_text(sizes)] + [link_text(link) for link in links])


def link_text(link):
    """Return the text of a link that is given as its tuple."""
    source, target, table, guard = link
    items = ",".join(["-" if item is None else str(item) for item in table])
    return f"{source}>{target} {guard}:{items}"


def filling_text(filling):
    """Return the text of a filling."""
    return ",".join([str(item) for item in filling])


def parse_form(value):
    """Return the form that has this text."""
    form = _read_form(value) if isinstance(value, str) else None
    if not is_form(form):
        raise BadText(value)
    return form


def parse_filling(form, value):
    """Return the filling of the form that has this text."""
    filling = read_numbers(value) if isinstance(value, str) else None
    if not is_filling(form, filling):
        raise BadText(value)
    return filling


def read_numbers(text):
    """Return the tuple of the integers, from 0 to 99, that a text has, joined by commas; None if it is no such text."""
    words = text.split(",")
    if not all([_is_number(word) for word in words]):
        return None
    return tuple([int(word) for word in words])


def read_link(text):
    """Return the tuple that stands in a text with the form of a link's, with integers up to 99; None if it has not."""
    source, _, behind = text.partition(">")
    target, _, behind = behind.partition(" ")
    guard, _, behind = behind.partition(":")
    items = behind.split(",")
    # Where a sign is missing, one of the words is empty, and so no number.
    if not all([_is_number(word) for word in (source, target, guard)]):
        return None
    if not all([item == "-" or _is_number(item) for item in items]):
        return None
    table = tuple([None if item == "-" else int(item) for item in items])
    return (int(source), int(target), table, int(guard))


def _read_form(text):
    sizes, *links = text.split(" / ")
    return (read_numbers(sizes), tuple([read_link(link) for link in links]))


def _is_number(word):
    if not word.isascii() or not word.isdigit():
        return False
    return len(word) == 1 or (len(word) == 2 and word[0] != "0")
