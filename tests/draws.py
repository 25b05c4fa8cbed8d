"""Draws events that may come next in a world of `tests.honest`: mostly honest ones, some wrong."""

from tests.honest import after, held, is_call

KINDS = {
    "threads": {"start": 3, "end": 1, "lock": 4, "unlock": 4, "wait": 12, "signal": 5, "signal_all": 0.7, "woken": 6,
                "restart": 0.3},
    "changes": {"create": 6, "remove": 3, "rename": 4, "look": 0.15, "sync_names": 0.02, "restart": 0.4},
    "names": {"look": 4, "create": 5, "remove": 2, "rename": 4, "sync_names": 1.5, "read": 1, "write": 0.5, "sync": 0.5,
              "restart": 2},
    "pages": {"create": 2, "remove": 0.5, "rename": 0.5, "sync_names": 1, "read": 6, "write": 6, "sync": 2, "look": 1,
              "restart": 2},
    "plain": {"clock": 5, "map": 5, "unmap": 2, "hear": 1, "start": 1, "restart": 1, "lock": 1, "unlock": 1},
}
KINDS["all"] = {}
for kinds in list(KINDS.values()):
    for kind, weight in kinds.items():
        KINDS["all"][kind] = KINDS["all"].get(kind, 0) + weight
TEXTS = ((), (0,), (7,), (7, 1), (65535,) * 20)
CUTS = ("create", "remove", "rename", "sync_names", "write", "sync")


def draw_cut(rng, world):
    kind = rng.choice(CUTS + ("create", "rename"))
    event = draw_of_kind(rng, world, kind)
    return event if kind == "sync_names" else event[:-1]


def draw_near(rng, many):
    """A number below a limit, seldom one beside it."""
    if many and rng.random() < 0.95:
        return rng.randrange(many)
    return rng.choice((many, many + 1, 40))


def draw_file(rng, world):
    named = [stamp for stamp in world.now + world.later if stamp is not None]
    if named and rng.random() < 0.8:
        return rng.choice(named)
    return draw_near(rng, world.next_stamp)


def draw_caller(rng, world, kind):
    if kind == "woken":
        waiting = [member[0] for line in world.lines for member in line]
        if waiting and rng.random() < 0.95:
            return rng.choice(waiting)
    if rng.random() < 0.03:
        return rng.randrange(world.next_thread + 1)
    holders = [thread for thread in world.holders if thread]
    if kind in ("wait", "unlock", "end") and holders and rng.random() < 0.9:
        return rng.choice(holders)
    others = sorted(world.running - {0})
    if kind == "lock" and others and rng.random() < 0.8:
        return rng.choice(others)
    return rng.choice(sorted(world.running))


def draw_lock(rng, world, thread):
    own = held(world, thread)
    if own and rng.random() < 0.9:
        return rng.choice(own)
    return draw_near(rng, 4)


def draw_map(rng, world):
    size = rng.choice((0, 1, 1, 2, 5, 100, 999, 1000, 1000, 1001))
    edges = [base for base, _ in world.maps] + [base + many for base, many in world.maps] + [0, 65536]
    base = rng.choice(edges) + rng.choice((0, 0, 0, 1, -1, -size, -size, 1 - size, -1 - size))
    return (size, min(max(base, 0), 65535))


def draw_of_kind(rng, world, kind):
    """An event of a kind; its answer is that of this world in most cases."""
    if kind == "restart":
        return ("restart", None if rng.random() < 0.4 else draw_cut(rng, world))
    thread = draw_caller(rng, world, kind)
    if kind == "start":
        return (kind, thread, world.next_thread + rng.choice((0,) * 15 + (1, -1)))
    if kind in ("end", "woken", "sync_names"):
        return (kind, thread)
    if kind == "lock":
        free = [lock for lock in range(4) if world.holders[lock] is None]
        return (kind, thread, rng.choice(free) if free and rng.random() < 0.85 else draw_near(rng, 4))
    if kind == "unlock":
        return (kind, thread, draw_lock(rng, world, thread))
    if kind == "wait":
        return (kind, thread, draw_near(rng, 2) if rng.random() < 0.4 else 0, draw_lock(rng, world, thread))
    if kind in ("signal", "signal_all"):
        return (kind, thread, draw_near(rng, 2) if rng.random() < 0.4 else 0)
    if kind == "clock":
        return (kind, thread, max(0, world.clock + rng.choice((-1, 0, 0, 1, 1, 5))))
    if kind == "map":
        return (kind, thread) + draw_map(rng, world)
    if kind == "unmap":
        return (kind, thread, rng.choice(sorted(base for base, _ in world.maps) + [rng.randrange(4)]))
    if kind == "hear":
        return (kind, thread, rng.choice(TEXTS))
    return draw_of_files(rng, world, kind, thread)


def draw_of_files(rng, world, kind, thread):
    right = rng.random() < 0.85
    done = rng.random() < 0.5
    name, other = draw_near(rng, 4), draw_near(rng, 4)
    has_file = name < 4 and world.now[name] is not None
    if kind == "look":
        wrong = rng.choice((None,) + tuple(range(world.next_stamp + 1)))
        return (kind, thread, name, world.now[name] if right and name < 4 else wrong)
    if kind == "create":
        stamp = world.next_stamp + rng.choice((0,) * 20 + (1, -1))
        return (kind, thread, name, max(stamp, 0), not has_file if right else done)
    if kind == "remove":
        return (kind, thread, name, has_file if right else done)
    if kind == "rename":
        return (kind, thread, name, other, has_file if right else done)
    stamp, page = draw_file(rng, world), draw_near(rng, 2)
    named = stamp in world.now
    if kind == "read":
        text = world.page(stamp, page)[0] if named else None
        return (kind, thread, stamp, page, text if right else rng.choice((None,) + TEXTS))
    if kind == "write":
        return (kind, thread, stamp, page, rng.choice(TEXTS), named if right else done)
    return (kind, thread, stamp, named if right else done)


def draw_on_the_way(rng, world):
    """An event that brings some thread nearer to waiting: a start or a lock."""
    free = [lock for lock in range(4) if world.holders[lock] is None]
    others = sorted(world.running - {0} - set(world.holders))
    if others and free:
        return ("lock", rng.choice(others), rng.choice(free))
    if free:
        return ("start", 0, world.next_thread)
    lock = rng.randrange(4)
    return ("unlock", world.holders[lock], lock)


def draw_event(rng, world, theme):
    """An event of a theme that may come next."""
    kinds = KINDS[theme]
    kind = rng.choices(list(kinds), weights=list(kinds.values()))[0]
    if kind == "wait" and not any(world.holders) and rng.random() < 0.9:
        return draw_on_the_way(rng, world)
    return draw_of_kind(rng, world, kind)


def draw_run(rng, theme, many, world):
    """A history that an honest system gives from a world on, with the choices of one run."""
    events = []
    while len(events) < many:
        event = draw_event(rng, world, theme)
        worlds = after(world, event) if is_call(world, event) else []
        if worlds:
            world = rng.choice(worlds)
            events.append(event)
    return events
