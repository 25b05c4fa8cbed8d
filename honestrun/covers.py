"""Names and texts that a program covers before the system sees them, and what the system learns all the same."""

from honestrun.errors import NotInBook

# Where names and texts stand in the calls that have them.
NAMES_AT = {"look": (2,), "create": (2,), "remove": (2,), "rename": (2, 3)}
TEXTS_AT = {"read": (4,), "write": (4,), "hear": (2,)}


class Cover:
    """Other names and texts, as the owner of a program chose them."""

    def __init__(self, order, book):
        self.order = order
        self.book = {first: second for first, second in book}

    def other_name(self, name):
        """The name that covers a name."""
        if 0 <= name < len(self.order):
            return self.order[name]
        return name

    def other_text(self, text):
        """The text that covers a text that is not empty."""
        if text not in self.book:
            raise NotInBook("a text has no pair in the book")
        return self.book[text]


class Places:
    """The places of names and texts in the order of their first occurrence."""

    def __init__(self):
        self.of_names = {}
        self.of_texts = {}

    def other_name(self, name):
        """The place of a name, from 0."""
        return self.of_names.setdefault(name, len(self.of_names))

    def other_text(self, text):
        """The place of a text that is not empty, from 1, as a text."""
        return (self.of_texts.setdefault(text, len(self.of_texts) + 1),)


def covered(history, names, book):
    """The history with its names and texts covered."""
    return _all_replaced(history, Cover(names, book))


def learnt(history):
    """What a system learns from a history: it with the places of its names and texts instead of them."""
    return _all_replaced(history, Places())


def _all_replaced(history, others):
    """The events of a history, one after another, with other names and texts."""
    events = []
    for event in history:
        if event[0] != "restart":
            events.append(_replaced(event, others))
        elif event[1] is None:
            events.append(event)
        else:
            events.append(("restart", _replaced(event[1], others)))
    return events


def _replaced(call, others):
    """A call, also a cut one, with other names and texts, from left to right."""
    members = list(call)
    for at in NAMES_AT.get(call[0], ()):
        members[at] = others.other_name(call[at])
    for at in TEXTS_AT.get(call[0], ()):
        # A read with None has no text, and the empty text is no secret.
        if call[at] is not None and call[at] != ():
            members[at] = others.other_text(call[at])
    return tuple(members)
