"""The texts of forms and fillings."""

from echofields.bounds import MAX_SIZE
from echofields.errors import BadText
from echofields.forms import is_filling, is_form


def form_text(form):
    """Return the text of a form."""
    sizes, links = form
    return " / ".join([filling_text(sizes)] + [link_text(link) for link in links])


def link_text(link):
    """Return the text of a link that is given as its tuple."""
    source, target, table, guard = link
    items = ",".join(["-" if item is None else str(item) for item in table])
    return f"{source}>{target} {guard}:{items}"


def filling_text(filling):
    """Return the text of a filling."""
    return ",".join([str(item) for item in filling])


def parse_form(value):
    """Return the form that has this text."""
    form = _read_form(value) if isinstance(value, str) else None
    if not is_form(form):
        raise BadText(value)
    return form


def parse_filling(form, value):
    """Return the filling of the form that has this text."""
    filling = read_numbers(value) if isinstance(value, str) else None
    if not is_filling(form, filling):
        raise BadText(value)
    return filling


def read_numbers(text):
    """Return the tuple of the integers, from 0 to 99, that a text has, joined by commas; None if it is no such text."""
    words = text.split(",")
    if not all([is_number(word) for word in words]):
        return None
    return tuple([int(word) for word in words])


def read_link(text):
    """Return the tuple that a text in the form of a link's tells, with integers up to 99; None if it is none."""
    source, _, behind = text.partition(">")
    target, _, behind = behind.partition(" ")
    guard, _, behind = behind.partition(":")
    items = behind.split(",")
    # Where a sign is missing, one of the words is empty, and so no number.
    if not all([is_number(word) for word in (source, target, guard)]):
        return None
    if len(items) > MAX_SIZE or not all([is_item(item) for item in items]):
        return None
    return (int(source), int(target), tuple([read_item(item) for item in items]), int(guard))


def is_item(word):
    """Tell whether a word is - or an integer from 0 to 99."""
    return word == "-" or is_number(word)


def read_item(word):
    """Return None for -, otherwise the integer that a word is."""
    return None if word == "-" else int(word)


def is_number(word):
    """Tell whether a word is an integer from 0 to 99 in decimal, without a sign and without a zero ahead."""
    if not word.isascii() or not word.isdigit():
        return False
    return len(word) == 1 or (len(word) == 2 and word[0] != "0")


def _read_form(text):
    sizes, *links = text.split(" / ")
    return (read_numbers(sizes), tuple([read_link(link) for link in links]))
