"""Shells: benches that are asked and changed by commands."""

from echofields.bounds import MAX_FIELDS
from echofields.errors import BadEdit, BadFilling, FieldError, TooManyMoments
from echofields.forms import loud_links
from echofields.runs import least_run
from echofields.texts import filling_text, is_item, is_number, read_item, read_link, read_numbers

# What stands behind the word of each command.
ARGUMENTS = {
    "add": ("link",), "drop": ("number",), "set": ("number", "link"), "guard": ("number", "number"),
    "entry": ("number", "number", "item"), "undo": (), "form": (), "links": (), "verdict": (), "loud": ("filling",),
    "end": ("filling", "number", "number"),
}
QUESTIONS = ("form", "links", "verdict", "loud", "end")


class Shell:
    """Commands for a bench."""

    def __init__(self, bench):
        self._bench = bench
        self._last = None

    @property
    def last(self):
        """The latest value that was a command."""
        return self._last

    def __call__(self, value):
        return self.execute(value)

    def execute(self, value):
        """Do a command and return its answer."""
        command = _read_command(value)
        if command is None:
            return "unknown command"
        self._last = value
        word, given = command
        return self._asked(word, given) if word in QUESTIONS else self._changed(word, given)

    def _changed(self, word, given):
        try:
            return f"ok {self._change(word, given)}"
        except FieldError as error:
            return "error " + error.__class__.__name__

    def _change(self, word, given):
        if word == "add":
            return self._bench.add(given[0])
        if word == "drop":
            return self._bench.drop(given[0])
        if word == "set":
            return self._bench.replace(given[0], given[1])
        if word == "guard":
            return self._bench.guard(given[0], given[1])
        if word == "entry":
            return self._bench.entry(given[0], given[1], given[2])
        return self._bench.undo()

    def _asked(self, word, given):
        if word == "form":
            return str(self._bench)
        if word == "links":
            return str(len(self._bench))
        if word == "verdict":
            return self._verdict()
        form = self._bench.form_at()
        return _loud(form, *given) if word == "loud" else _end(form, *given)

    def _verdict(self):
        try:
            return self._bench.verdict_at()[0]
        except TooManyMoments:
            return "error TooManyMoments"


def _loud(form, filling):
    """Return the loud links at a filling as a text."""
    try:
        links = loud_links(form, filling)
    except BadFilling:
        return "error BadFilling"
    return "none" if links == () else ",".join([str(link) for link in links])


def _end(form, filling, field, item):
    """Return where a filling comes to by an edit, the least link firing first, as a text."""
    try:
        word, end, order = least_run(form, filling, (field, item))
    except BadFilling:
        return "error BadFilling"
    except BadEdit:
        return "error BadEdit"
    return "endless" if word == "endless" else f"{filling_text(end)} {len(order)}"


def _read_command(value):
    """Return the word of a command and the tuple of what stands behind it, None if value is no command."""
    if not isinstance(value, str):
        return None
    word, *texts = value.split(" ")
    kinds = ARGUMENTS.get(word)
    if kinds is None:
        return None
    if "link" in kinds:
        # The text of a link, always the last one, has a blank itself.
        texts = texts[:-2] + [" ".join(texts[-2:])]
    if len(texts) != len(kinds) or not all([_is_kind(kind, text) for kind, text in zip(kinds, texts)]):
        return None
    return (word, tuple([_read(kind, text) for kind, text in zip(kinds, texts)]))


def _is_kind(kind, text):
    if kind == "number":
        return is_number(text)
    if kind == "item":
        return is_item(text)
    return _read(kind, text) is not None


def _read(kind, text):
    """Return what a text of this kind tells, None for one that is no link or filling."""
    if kind == "link":
        return read_link(text)
    if kind == "filling":
        numbers = read_numbers(text)
        return numbers if numbers is None or len(numbers) <= MAX_FIELDS else None
    return read_item(text)
