"""Forms and their fillings, edits and wishes, and how their links lead from field to field."""

from echofields.bounds import MAX_FIELDS, MAX_FILLINGS, MAX_LINKS, MAX_SIZE
from echofields.errors import BadFilling, NoLink
from echofields.kinds import is_index, is_natural, is_tuple_of, is_whole


def is_form(value):
    """Tell whether value is a form."""
    return form_error(value) is None


def form_error(value):
    """Return None for a form, otherwise a pair: the index of a wrong link or None, and a word for what is wrong."""
    if not is_tuple_of(value, 2):
        return (None, "form")
    sizes, links = value
    if not _are_sizes(sizes):
        return (None, "sizes")
    if not isinstance(links, tuple) or len(links) > MAX_LINKS:
        return (None, "links")
    for index, link in enumerate(links):
        word = link_error(sizes, link)
        if word is not None:
            return (index, word)
    return None


def link_error(sizes, value):
    """Return None if value is a link between fields of these sizes, otherwise a word for what is wrong with it."""
    if not is_tuple_of(value, 4):
        return "link"
    source, target, table, guard = value
    if not is_index(source, len(sizes)):
        return "source"
    if not is_index(target, len(sizes)) or target == source:
        return "target"
    if not _is_table(table, sizes[source], sizes[target]):
        return "table"
    if not is_guard(guard):
        return "guard"
    return None


def is_guard(value):
    """Tell whether value is the guard of some link."""
    return is_index(value, 4)


def fillings(form):
    """Return the ascending tuple of all fillings."""
    rows = [()]
    for size in form[0]:
        rows = [row + (value,) for row in rows for value in range(size)]
    return tuple(rows)


def all_edits(form):
    """Return the ascending list of all edits."""
    return [(field, item) for field, size in enumerate(form[0]) for item in range(size)]


def product_of(numbers):
    """Return the product of some integers, 1 for none."""
    result = 1
    for number in numbers:
        result = result * number
    return result


def is_filling(form, value):
    """Tell whether value is a filling of the form."""
    sizes = form[0]
    if not is_tuple_of(value, len(sizes)):
        return False
    return all([is_index(value[field], sizes[field]) for field in range(len(sizes))])


def is_edit(form, value):
    """Tell whether value is an edit of the form."""
    if not is_tuple_of(value, 2):
        return False
    field, item = value
    return is_index(field, len(form[0])) and is_index(item, form[0][field])


def left_out(form, links):
    """Return the form without some of its links; those behind them move up."""
    sizes, rows = form
    return (sizes, tuple([link for index, link in enumerate(rows) if index not in links]))


def check_filling(form, filling):
    """Raise BadFilling if this is not a filling of the form."""
    if not is_filling(form, filling):
        raise BadFilling(filling)


def wish(form, filling, link):
    """Return the wish of the link with this index, at the filling."""
    check_filling(form, filling)
    if not is_index(link, len(form[1])):
        raise NoLink(link)
    return wish_of(form[1][link], filling)


def wish_of(link, filling):
    """Return the wish of a link, given as its tuple, at a filling of its form."""
    return link[2][filling[link[0]]]


def is_loud(link, filling):
    """Tell whether a link, given as its tuple, wishes its target another value than it has."""
    wished = wish_of(link, filling)
    return wished is not None and wished != filling[link[1]]


def loud_links(form, filling):
    """Return the ascending tuple of the links whose wish is neither None nor what their target has."""
    check_filling(form, filling)
    links = form[1]
    return tuple([index for index in range(len(links)) if is_loud(links[index], filling)])


def is_calm(form, filling):
    """Tell whether no link is loud at the filling."""
    check_filling(form, filling)
    return rests_at(form, filling)


def rests_at(form, filling):
    """Return what is_calm does; this asks for a filling, and doesn't check it."""
    return not any([is_loud(link, filling) for link in form[1]])


def field_ring(form):
    """Return the shortest ring of links, the smallest of several, or ranks of the fields if there is none."""
    ring = _shortest_ring(form)
    if ring is None:
        return ("ranks", _ranks(form))
    return ("ring", ring)


def ring_holds(form, value):
    """Tell whether value is a ring of links, of any length, or ranks that show that there is none."""
    if not is_tuple_of(value, 2):
        return False
    word, items = value
    if word == "ring":
        return _is_ring(form[1], items)
    if word == "ranks":
        return _are_ranks(form, items)
    return False


def _are_sizes(value):
    if not isinstance(value, tuple) or not 1 <= len(value) <= MAX_FIELDS:
        return False
    if not all([is_whole(size) and 2 <= size <= MAX_SIZE for size in value]):
        return False
    return product_of(value) <= MAX_FILLINGS


def _is_table(value, many, size):
    if not is_tuple_of(value, many):
        return False
    return all([item is None or is_index(item, size) for item in value])


def _leads_to(links, one, other):
    return links[one][1] == links[other][0]


def _shortest_ring(form):
    links = form[1]
    walks = [(index,) for index in range(len(links))]
    # The shortest ring comes to no field twice, so it has at most as many links as there are fields.
    for _ in form[0]:
        closed = [walk for walk in walks if _leads_to(links, walk[-1], walk[0])]
        if closed != []:
            # The walks stand in ascending order, so this one is the smallest.
            return closed[0]
        walks = [walk + (index,) for walk in walks for index in range(len(links)) if _leads_to(links, walk[-1], index)]
    return None


def _ranks(form):
    ranks = [0] * len(form[0])
    # Without a ring no row of links is longer than the number of fields, so as many rounds settle all ranks.
    for _ in form[0]:
        for link in form[1]:
            ranks[link[1]] = max(ranks[link[1]], ranks[link[0]] + 1)
    return tuple(ranks)


def _is_ring(links, value):
    if not isinstance(value, tuple) or value == ():
        return False
    if not all([is_index(link, len(links)) for link in value]):
        return False
    # Place 0 is compared with place -1, the last one: this closes the ring.
    return all([_leads_to(links, value[place - 1], value[place]) for place in range(len(value))])


def _are_ranks(form, value):
    if not is_tuple_of(value, len(form[0])):
        return False
    if not all([is_natural(rank) for rank in value]):
        return False
    return all([value[link[0]] < value[link[1]] for link in form[1]])
