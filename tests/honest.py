"""An honest system with all its free choices, written from points 3 to 12, 14, 15, 17 and 19 of the document.

A World is one state that an honest system can be in. `Crowd` holds all worlds that agree with the events so far,
one for each run of free choices; nothing of points 13, 16 and 18 is used to find them.
"""

from itertools import product
from typing import NamedTuple

EMPTY = ((), ())
CHANGES = ("create", "remove", "rename")
RULES = {"lock": 1, "clock": 4, "map": 5, "look": 6, "create": 7, "remove": 8, "rename": 9, "write": 12, "sync": 13}


class World(NamedTuple):
    running: frozenset = frozenset([0])
    next_thread: int = 1
    holders: tuple = (None, None, None, None)
    lines: tuple = ((), ())  # members: (thread, lock, has been woken)
    clock: int = 0
    maps: frozenset = frozenset()  # members: (base, size)
    now: tuple = (None, None, None, None)
    later: tuple = (None, None, None, None)
    next_stamp: int = 0
    pages: frozenset = frozenset()  # members: (stamp, page, text now, text later); others are empty

    def page(self, stamp, page):
        for entry in self.pages:
            if entry[:2] == (stamp, page):
                return entry[2:]
        return EMPTY

    def with_page(self, stamp, page, now, later):
        others = frozenset(entry for entry in self.pages if entry[:2] != (stamp, page))
        if (now, later) == EMPTY:
            return self._replace(pages=others)
        return self._replace(pages=others | {(stamp, page, now, later)})


def put(items, at, item):
    return items[:at] + (item,) + items[at + 1:]


def names_changed(world, call):
    """The names after a change that would be done now, otherwise None."""
    kind, name = call[0], call[2]
    now = world.now
    if kind == "create":
        return put(now, name, call[3]) if now[name] is None else None
    if now[name] is None:
        return None
    if kind == "remove":
        return put(now, name, None)
    return put(put(now, name, None), call[3], now[name])


def with_change(world, names):
    """After a change: what survives is what survived before, or the names as they are now."""
    return [world._replace(now=names, later=later) for later in (world.later, names)]


def with_write(world, stamp, page, text):
    later = world.page(stamp, page)[1]
    return [world.with_page(stamp, page, text, kept) for kept in (later, text)]


def with_sync(world, stamp):
    for page in (0, 1):
        now, _ = world.page(stamp, page)
        world = world.with_page(stamp, page, now, now)
    return world


def restarted(world):
    return world._replace(
        running=frozenset([0]), holders=(None,) * 4, lines=((), ()), maps=frozenset(), now=world.later,
        pages=frozenset((stamp, page, later, later) for stamp, page, _, later in world.pages if later != ()),
    )


def with_cut(world, cut):
    """The worlds in which a cut call was made or not."""
    kind = cut[0]
    if kind in CHANGES:
        names = names_changed(world, cut)
        if kind == "create":
            world = world._replace(next_stamp=world.next_stamp + 1)
        return [world] + ([] if names is None else with_change(world, names))
    if kind == "sync_names":
        return [world, world._replace(later=world.now)]
    if kind == "write":
        return [world] + with_write(world, *cut[2:])
    return [world, with_sync(world, cut[2])]


def held(world, thread):
    return [lock for lock in range(4) if world.holders[lock] == thread]


def place(world, thread):
    for condition in (0, 1):
        for at, member in enumerate(world.lines[condition]):
            if member[0] == thread:
                return condition, at
    return None


def with_line(world, condition, line):
    return world._replace(lines=put(world.lines, condition, tuple(line)))


def after_thread_event(world, event):
    kind, thread = event[0], event[1]
    if kind == "start":
        return [world._replace(running=world.running | {event[2]}, next_thread=event[2] + 1)]
    if kind == "end":
        return [world._replace(running=world.running - {thread})]
    if kind == "lock":
        if world.holders[event[2]] is not None:
            return []
        return [world._replace(holders=put(world.holders, event[2], thread))]
    if kind == "unlock":
        return [world._replace(holders=put(world.holders, event[2], None))]
    if kind == "wait":
        condition, lock = event[2:]
        world = world._replace(running=world.running - {thread}, holders=put(world.holders, lock, None))
        return [with_line(world, condition, world.lines[condition] + ((thread, lock, False),))]
    if kind == "signal":
        line = world.lines[event[2]]
        asleep = [at for at, member in enumerate(line) if not member[2]]
        if not asleep:
            return [world]
        return [with_line(world, event[2], put(line, at, line[at][:2] + (True,))) for at in asleep]
    if kind == "signal_all":
        line = world.lines[event[2]]
        return [with_line(world, event[2], [member[:2] + (True,) for member in line])]
    condition, at = place(world, thread)
    _, lock, is_woken = world.lines[condition][at]
    if not is_woken or world.holders[lock] is not None:
        return []
    line = world.lines[condition]
    world = with_line(world, condition, line[:at] + line[at + 1:])
    return [world._replace(running=world.running | {thread}, holders=put(world.holders, lock, thread))]


def after_file_event(world, event):
    kind = event[0]
    if kind == "look":
        return [world] if world.now[event[2]] == event[3] else []
    if kind in CHANGES:
        names = names_changed(world, event[:-1])
        if kind == "create":
            world = world._replace(next_stamp=world.next_stamp + 1)
        if event[-1] != (names is not None):
            return []
        return with_change(world, names) if event[-1] else [world]
    if kind == "sync_names":
        return [world._replace(later=world.now)]
    named = event[2] in world.now
    if kind == "read":
        text = world.page(event[2], event[3])[0] if named else None
        return [world] if event[4] == text else []
    if event[-1] != named:
        return []
    if not named:
        return [world]
    if kind == "write":
        return with_write(world, *event[2:5])
    return [with_sync(world, event[2])]


def after(world, event):
    """The worlds that an honest system can be in after it gave the event in this world; none if it does not."""
    kind = event[0]
    if kind == "hear":
        return [world]
    if kind == "clock":
        return [world._replace(clock=event[2])] if event[2] >= world.clock else []
    if kind == "map":
        size, base = event[2:]
        cells = set(range(base, base + size))
        if any(cells & set(range(start, start + many)) for start, many in world.maps):
            return []
        return [world._replace(maps=world.maps | {(base, size)})]
    if kind == "unmap":
        return [world._replace(maps=frozenset(entry for entry in world.maps if entry[0] != event[2]))]
    if kind == "restart":
        return [restarted(made) for made in ([world] if event[1] is None else with_cut(world, event[1]))]
    if kind in ("start", "end", "lock", "unlock", "wait", "signal", "signal_all", "woken"):
        return after_thread_event(world, event)
    return after_file_event(world, event)


def is_call(world, event):
    """Point 8. Everything that it looks at is the same in all worlds that agree with a history."""
    if event[0] == "restart":
        return event[1] is None or is_call(world, event[1])
    kind, thread, rest = event[0], event[1], event[2:]
    if kind == "woken":
        return place(world, thread) is not None
    if thread not in world.running:
        return False
    if kind == "start":
        return rest[0] == world.next_thread
    if kind == "end":
        return thread != 0 and held(world, thread) == []
    if kind == "lock":
        return rest[0] in range(4)
    if kind == "unlock":
        return rest[0] in held(world, thread)
    if kind == "wait":
        return thread != 0 and rest[0] in range(2) and held(world, thread) == [rest[1]]
    if kind in ("signal", "signal_all"):
        return rest[0] in range(2)
    if kind == "map":
        return rest[0] in range(1, 1001) and rest[0] + rest[1] <= 65536
    if kind == "unmap":
        return any(base == rest[0] for base, _ in world.maps)
    if kind in ("look", "remove"):
        return rest[0] in range(4)
    if kind == "create":
        return rest[0] in range(4) and rest[1] == world.next_stamp
    if kind == "rename":
        return rest[0] in range(4) and rest[1] in range(4)
    if kind in ("read", "write"):
        return rest[0] in range(world.next_stamp) and rest[1] in range(2)
    if kind == "sync":
        return rest[0] in range(world.next_stamp)
    return True


class Crowd:
    """All worlds that agree with the events so far."""

    def __init__(self):
        self.worlds = [World()]

    def take(self, event):
        """What a shield has to answer; the worlds are followed if it is None."""
        if not self._is_call(event):
            return ("no call",)
        worlds = list(dict.fromkeys(later for world in self.worlds for later in self._after(world, event)))
        if not worlds:
            return ("refused", self._rule(event))
        if len({(world.now, world.later) for world in worlds}) > 60:
            return ("too many",)
        self.worlds = worlds
        return None

    def _is_call(self, event):
        return is_call(self.worlds[0], event)

    def _after(self, world, event):
        return after(world, event)

    def _rule(self, event):
        if event[0] == "woken":
            places = [world.lines[place(world, event[1])[0]][place(world, event[1])[1]] for world in self.worlds]
            return 3 if any(member[2] for member in places) else 2
        if event[0] == "read":
            none_told = event[4] is None
            agreeing = [world for world in self.worlds if (event[2] in world.now) != none_told]
            return 11 if agreeing else 10
        return RULES[event[0]]

    def form(self):
        world = self.worlds[0]
        woken, waits = self._lines()
        return (
            tuple(sorted(world.running)), world.next_thread,
            tuple((lock, world.holders[lock]) for lock in range(4) if world.holders[lock] is not None),
            woken, waits, world.clock, tuple(sorted(world.maps)), self._names(), self._pages(), world.next_stamp,
        )

    def _names(self):
        def order(pair):
            return [[(stamp is not None, stamp or 0) for stamp in names] for names in pair]
        return tuple(sorted({(world.now, world.later) for world in self.worlds}, key=order))

    def _pages(self):
        files_now = {stamp for world in self.worlds for stamp in world.now}
        files_later = {stamp for world in self.worlds for stamp in world.later}
        entries = []
        for stamp, page in product(range(self.worlds[0].next_stamp), (0, 1)):
            now = {world.page(stamp, page)[0] for world in self.worlds}
            may = tuple(sorted({world.page(stamp, page)[1] for world in self.worlds}))
            known = min(now) if len(now) == 1 else None
            if (known, may) == ((), ((),)) or stamp not in files_now | files_later:
                continue
            entries.append((stamp, page, known if stamp in files_now else None, may))
        return tuple(entries)

    def _lines(self):
        """woken and waits: a place counts if one more can be woken from it on than after it (point 18)."""
        sure, waits = [], []
        for condition in (0, 1):
            choices = {tuple(member[2] for member in world.lines[condition]) for world in self.worlds}
            line = [member[:2] for member in self.worlds[0].lines[condition]]
            most = [max(sum(choice[at:]) for choice in choices) for at in range(len(line) + 1)]
            counts = [most[at] > most[at + 1] for at in range(len(line))]
            front = counts.index(False) if False in counts else len(line)
            sure += line[:front]
            blocks = []
            for at in range(front, len(line)):
                if at == front or (counts[at - 1] and not counts[at]):
                    blocks.append([])
                blocks[-1].append(at)
            waits.append(tuple(
                (tuple(sorted(line[at] for at in block)), sum(counts[at] for at in block)) for block in blocks
            ))
        return tuple(sorted(sure)), tuple(waits)
