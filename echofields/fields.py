"""Fields as objects: a form with a filling that is edited."""

from echofields.bounds import BATCH
from echofields.errors import BadBatch, BadForm, Endless, NoField, Rejected
from echofields.forms import check_filling, form_error, is_calm, is_edit
from echofields.kinds import is_index
from echofields.runs import least_run
from echofields.texts import filling_text


class Fields:
    """A form and a filling of it. In its runs always the least pending link fires."""

    def __init__(self, form, filling):
        error = form_error(form)
        if error is not None:
            raise BadForm(error)
        check_filling(form, filling)
        self._form = form
        self._filling = filling
        self._last = ()

    @property
    def form(self):
        """The form."""
        return self._form

    @property
    def filling(self):
        """The filling that is there; setting it does what refill does."""
        return self._filling

    @filling.setter
    def filling(self, value):
        self.refill(value)

    @property
    def last(self):
        """The links that fired in the latest edit that was done."""
        return self._last

    def refill(self, filling):
        """Put a filling in the place of the one that is there; nothing fires."""
        check_filling(self._form, filling)
        self._filling = filling
        self._last = ()

    def copy(self):
        """Return a new object with the same form, filling and last."""
        twin = Fields(self._form, self._filling)
        twin._last = self._last
        return twin

    def __call__(self, edits):
        """Do several edits, all or none of them; return a tuple with the order of each."""
        if not isinstance(edits, tuple) or len(edits) > BATCH:
            raise BadBatch()
        filling = self._filling
        orders = []
        for index, edit in enumerate(edits):
            if not is_edit(self._form, edit):
                raise Rejected(index)
            word, found, links = least_run(self._form, filling, edit)
            if word == "endless":
                raise Rejected(index)
            filling = found
            orders.append(links)
        if orders != []:
            self._filling = filling
            self._last = orders[-1]
        return tuple(orders)

    def __getitem__(self, at):
        if not is_index(at, len(self._filling)):
            raise NoField(at)
        return self._filling[at]

    def __setitem__(self, at, worth):
        self._do((at, worth))

    def __iadd__(self, other):
        self._do(other)
        return self

    def __iter__(self):
        # Without this Python would ask for item after item.
        raise TypeError("fields are not iterated over")

    def __contains__(self, x):
        return is_edit(self._form, x) and self._filling[x[0]] == x[1]

    def __len__(self):
        return len(self._filling)

    def __bool__(self):
        return bool(is_calm(self._form, self._filling))

    def __str__(self):
        return str(filling_text(self._filling))

    def __eq__(self, other):
        return isinstance(other, Fields) and self._form == other._form and self._filling == other._filling

    def _do(self, edit):
        word, found, links = least_run(self._form, self._filling, edit)
        if word == "endless":
            raise Endless(found, links)
        self._filling = found
        self._last = links
