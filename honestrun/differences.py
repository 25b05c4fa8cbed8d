"""What tells two pasts apart: a future that is taken after one of them and not after the other one."""

from honestrun.futures import futures, unlocks, waiting
from honestrun.shields import Shield


def difference(first, second):
    """None if two histories have the same form, otherwise 1 or 2 and a future taken after that one alone."""
    one = _shield_after(first)
    two = _shield_after(second)
    form = one.form()
    other = two.form()
    if form == other:
        return None
    found = _first_split(one, two, futures(form, other) + futures(other, form))
    if found is not None:
        return found
    # What is left is who has been woken. Threads that wait at different conditions are told apart by a signal.
    return _first_split(one, two, [
        future
        for start in ([], [("signal_all", 0, 0)], [("signal_all", 0, 1)])
        for future in _wakings(_shield_from(one, start), _shield_from(two, start), start)
    ])


def _shield_after(history):
    """A shield that took a history."""
    return _shield_from(Shield(), history)


def _shield_from(shield, events):
    """A copy of a shield that has also taken some events."""
    twin = shield.copy()
    for event in events:
        twin.take(event)
    return twin


def _first_split(one, two, candidates):
    """What the first of some futures that splits two shields shows, None if none does."""
    for future in candidates:
        found = _split(one, two, future)
        if found is not None:
            return found
    return None


def _split(one, two, future):
    """The shield that takes the first event that one of them alone takes, and the future up to there."""
    left = one.copy()
    right = two.copy()
    for at, event in enumerate(future):
        taken_left = left.take(event) is None
        taken_right = right.take(event) is None
        if taken_left != taken_right:
            return (1 if taken_left else 2, future[:at + 1])
        if not taken_left:
            return None
    return None


def _wakings(one, two, start):
    """Futures that begin with some events, after which the shields are these: as many of a group as can go on do."""
    form = one.form()
    other = two.form()
    groups = _groups(form, other) + _groups(other, form)
    events = start + unlocks(form)
    return [events + _going_on(shield, unlocks(form), group) for group in groups for shield in (one, two)]


def _groups(form, other):
    """Groups of waiting threads. If two forms differ, of one group more can go on after one than after the other.

    In the end of a line from a block on, just as many can have been woken as places there count. And of all but
    one that surely has been woken, one less can have been woken than of all.
    """
    everyone = waiting(form)
    groups = [everyone]
    for sure in form[3]:
        if sure not in other[3]:
            groups.append([pair for pair in everyone if pair != sure])
    for blocks in form[4]:
        for at in range(len(blocks)):
            groups.append([pair for members, _ in blocks[at:] for pair in members])
    return groups


def _going_on(shield, before, group):
    """Events by which as many threads of a group go on as can after some events, and give up their locks."""
    twin = _shield_from(shield, before)
    events = []
    for thread, lock in group:
        if twin.take(("woken", thread)) is None:
            twin.take(("unlock", thread, lock))
            events += [("woken", thread), ("unlock", thread, lock)]
    return events
