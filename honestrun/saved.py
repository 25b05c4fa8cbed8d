"""Shields that are saved as lists of integers, and opened again."""

from honestrun.errors import NotSaved
from honestrun.readers import Reader
from honestrun.shields import Shield

MODULUS = 1000003


def mark(items):
    """The mark of a list of integers."""
    weighed = [place * item for place, item in enumerate(items, start=1)]
    return (len(items), sum(items) % MODULUS, sum(weighed) % MODULUS)


def save(shield, number):
    """The list that holds what a shield remembers, with the number of its owner, and the receipt of this list."""
    running, next_thread, holders, woken, waits, clock, maps, names, pages, next_stamp = shield.form()
    items = [number, next_thread, clock, next_stamp]
    items += _numbers(running) + _pairs(holders) + _pairs(woken) + _pairs(maps)
    for blocks in waits:
        items += _joined([[count] + _pairs(members) for members, count in blocks])
    items += _joined([_stamps(now + later) for now, later in names])
    items += _joined([_entry(entry) for entry in pages])
    return (items, (number, mark(items)))


def open_saved(items, receipt):
    """The shield that was saved as a list."""
    number, mark_then = receipt
    if mark(items) != mark_then:
        raise NotSaved("the mark of the list is not that of the receipt")
    if not items or items[0] != number:
        raise NotSaved("the number of the list is not that of the receipt")
    shield = Shield()
    shield.recall(_form_in(items))
    return shield


def _form_in(items):
    """The form of the shield that was saved as a list."""
    reader = Reader(items)
    _, next_thread, clock, next_stamp = reader.read_numbers(4)
    running = reader.read_list()
    holders = reader.read_pairs()
    woken = reader.read_pairs()
    maps = reader.read_pairs()
    blocks = reader.read_blocks()
    waits = (blocks, reader.read_blocks())
    names = reader.read_names()
    pages = reader.read_pages()
    return (running, next_thread, holders, woken, waits, clock, maps, names, pages, next_stamp)


def _joined(members):
    """A list whose members are saved like this."""
    items = [len(members)]
    for member in members:
        items += member
    return items


def _numbers(members):
    """A list of integers, or a text."""
    return [len(members)] + list(members)


def _pairs(pairs):
    """A list of pairs of integers."""
    return _joined([list(pair) for pair in pairs])


def _stamps(stamps):
    """The stamps of names, or None."""
    return [0 if stamp is None else stamp + 1 for stamp in stamps]


def _entry(entry):
    """An entry of a page."""
    stamp, page, now, may = entry
    known = [0] if now is None else [1] + _numbers(now)
    return [stamp, page] + known + _joined([_numbers(text) for text in may])
