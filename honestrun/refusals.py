"""Refusals: an event that no honest system gives, with the events of one part that show it."""

from honestrun.answers import refused
from honestrun.clock import Clock
from honestrun.maps import Maps
from honestrun.names import Names
from honestrun.pages import Pages
from honestrun.shields import taken
from honestrun.threads import Threads

# The name of the part that each rule belongs to.
PARTS = {
    1: "threads", 2: "threads", 3: "threads", 4: "clock", 5: "maps", 6: "names", 7: "names", 8: "names", 9: "names",
    10: "names", 11: "pages", 12: "names", 13: "names",
}


def why(history):
    """The refusal of the first event that a new shield does not take, None if no rule refuses it."""
    found = taken(history)
    if found is None or found[1][0] != "refused":
        return None
    number, (_, rule) = found
    name = PARTS[rule]
    return (number, rule, name, _numbers_before(history, number, _new_part(name)))


def judge(history, refusal):
    """Whether a refusal shows, by the events of its part alone, that a history is not honest."""
    number, rule, name, numbers = refusal
    if not 0 <= number < len(history) or PARTS.get(rule) != name:
        return False
    part = _new_part(name)
    if history[number][0] not in part.EVENTS or numbers != _numbers_before(history, number, part):
        return False
    for earlier in numbers:
        if part.answer(history[earlier]) is not None:
            return False
        part.change(history[earlier])
    return part.answer(history[number]) == refused(rule)


def _new_part(name):
    """The part with this name, at the beginning."""
    match name:
        case "clock":
            return Clock()
        case "maps":
            return Maps()
        case "threads":
            return Threads()
        case "names":
            return Names()
    return Pages()


def _numbers_before(history, number, part):
    """The numbers of all events of a part before the event with a number, ascending."""
    return tuple([at for at, event in enumerate(history[:number]) if event[0] in part.EVENTS])
