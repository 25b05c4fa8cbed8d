"""What tells two pasts apart: a future that is taken after one of them and not after the other one."""

from honestrun.futures import futures, missing, unlocks
from honestrun.shields import Shield


def difference(first, second):
    """None if two histories have the same form, otherwise 1 or 2 and a future taken after that one alone."""
    one = _shield_after(first)
    two = _shield_after(second)
    form = one.form()
    other = two.form()
    if form == other:
        return None
    found = _first_split(one, two, futures(form, other) + futures(other, form))
    if found is None:
        found = _first_split(one, two, _wakings(one, two, []))
    if found is None:
        found = _first_split(one, two, _wakings(one, two, [("signal_all", 0, 0)]))
    return found


def _shield_after(history):
    """A shield that took a history."""
    return _shield_from(Shield(), history)


def _shield_from(shield, events):
    """A copy of a shield that has also taken some events."""
    twin = shield.copy()
    for event in events:
        twin.take(event)
    return twin


def _first_split(one, two, candidates):
    """What the first of some futures that splits two shields shows, None if none does."""
    for future in candidates:
        found = _split(one, two, future)
        if found is not None:
            return found
    return None


def _split(one, two, future):
    """The shield that takes the first event that one of them alone takes, and the future up to there."""
    left = one.copy()
    right = two.copy()
    for at, event in enumerate(future):
        taken_left = left.take(event) is None
        taken_right = right.take(event) is None
        if taken_left != taken_right:
            return (1 if taken_left else 2, future[:at + 1])
        if not taken_left:
            return None
    return None


def _wakings(one, two, signals):
    """Futures in which, after some signals, as many threads in the end of a line go on as can after one of two pasts.

    The same threads wait after both, and the same ones run and hold locks. In the end of a line from a block on, just
    as many can have been woken as places count there, and these numbers tell which choices of woken threads are
    possible. So if the choices differ, then of some such end more can go on after one past than after the other. If
    they do not, but threads that need not have been woken wait at different conditions, they do after a signal to
    all at one of the conditions.
    """
    one = _shield_from(one, signals)
    two = _shield_from(two, signals)
    ends = _ends(one.form())
    other_ends = _ends(two.form())
    before = signals + unlocks(one.form())
    return [
        before + _going_on(shield, end)
        for end in missing(ends, other_ends) + missing(other_ends, ends)
        for shield in (one, two)
    ]


def _ends(form):
    """The ends of the lines: the blocks of each line from some block on."""
    return [blocks[at:] for blocks in form[4] for at in range(len(blocks))]


def _going_on(shield, end):
    """Events by which as many threads in some blocks go on as can if all locks are free, and give up their locks."""
    twin = _shield_from(shield, unlocks(shield.form()))
    events = []
    for thread, lock in [pair for members, _ in end for pair in members]:
        if twin.take(("woken", thread)) is None:
            twin.take(("unlock", thread, lock))
            events += [("woken", thread), ("unlock", thread, lock)]
    return events
