"""`difference`, and equal forms with the same futures (point 25)."""

import random

from honestrun.differences import difference
from honestrun.shields import Shield
from tests.draws import KINDS, draw_event
from tests.helpers import Checks, many_pairs, shield_after, waiting
from tests.honest import Crowd

MOST_WORLDS = 200
FILE = [("create", 0, 0, 0, True), ("sync_names", 0)]
RESTART = ("restart", None)


def drawn(theme, seed, events):
    """A drawn history that is taken."""
    rng = random.Random(seed)
    crowd, history = Crowd(), []
    while len(history) < events and len(crowd.worlds) <= MOST_WORLDS:
        event = draw_event(rng, rng.choice(crowd.worlds), theme)
        if crowd.take(event) is None:
            history.append(event)
    return history


def taken_part(events):
    """Of some events, those that a new shield takes, one after another."""
    shield = Shield()
    return [event for event in events if shield.take(event) is None]


def changed(rng, history, theme):
    """A history with events exchanged, left out, put in or repeated."""
    events = list(history)
    for _ in range(rng.choice((1, 1, 1, 2, 4))):
        if not events:
            break
        way, at = rng.randrange(5), rng.randrange(len(events))
        if way == 0 and at:
            events[at - 1:at + 1] = [events[at], events[at - 1]]
        elif way == 1:
            other = rng.randrange(len(events))
            events[at], events[other] = events[other], events[at]
        elif way == 2:
            del events[at]
        elif way == 3:
            events.insert(at, rng.choice(events))
        else:
            crowd = Crowd()
            for event in events[:at]:
                crowd.take(event)
            events.insert(at, draw_event(rng, rng.choice(crowd.worlds), theme))
    return taken_part(events)


class Drawn(Checks):
    def test_pairs_that_differ_in_some_events(self):
        same = different = 0
        for theme in KINDS:
            for seed in range(150):
                rng = random.Random(f"pair {theme} {seed}")
                first = drawn(theme, f"{theme} {seed}", rng.choice((5, 15, 40)))
                for _ in range(4):
                    second = changed(rng, first, theme)
                    if rng.random() < 0.5:
                        second = changed(rng, second, theme)
                    self.check_difference(first, second)
                    if shield_after(first).form() == shield_after(second).form():
                        same += 1
                        self.check_same_futures(first, second, theme, rng)
                    else:
                        different += 1
        self.assertGreater(same, 500)
        self.assertGreater(different, 1000)

    def test_pairs_that_are_drawn_apart(self):
        for theme in KINDS:
            for seed in range(120):
                events = (3, 12, 40)[seed % 3]
                self.check_difference(drawn(theme, f"a {seed}", events), drawn(theme, f"b {seed}", events))

    def check_same_futures(self, first, second, theme, rng):
        """Drawn futures of two histories with the same form: all answers are the same."""
        crowd = Crowd()
        for event in first:
            crowd.take(event)
        one, two = shield_after(first), shield_after(second)
        for _ in range(25):
            if len(crowd.worlds) > MOST_WORLDS:
                break
            event = draw_event(rng, rng.choice(crowd.worlds), theme)
            answer = one.take(event)
            self.assertEqual(two.take(event), answer, (first, second, event))
            self.assertEqual(two.form(), one.form(), (first, second, event))
            crowd.take(event)

    def test_lines_that_were_woken_in_other_ways(self):
        same = different = 0
        for seed in range(2000):
            rng = random.Random(f"lines {seed}")
            first, second = self.draw_line(rng), self.draw_line(rng)
            self.check_difference(first, second)
            if shield_after(first).form() == shield_after(second).form():
                same += 1
                self.check_same_futures(first, second, "threads", rng)
            else:
                different += 1
        self.assertGreater(same, 20)
        self.assertGreater(different, 500)

    def draw_line(self, rng):
        """Some threads come to the conditions in some order, and signals between."""
        many = rng.choice((2, 3, 4, 5))
        threads = list(range(1, many + 1))
        rng.shuffle(threads)
        events = [("start", 0, thread) for thread in range(1, 6)]
        for thread in threads:
            condition = 0 if rng.random() < 0.8 else 1
            events += [("lock", thread, 0), ("wait", thread, condition, 0)]
            while rng.random() < 0.35:
                events.append((rng.choice(("signal", "signal", "signal_all")), 0, rng.choice((0, 0, 1))))
        return events


class Parts(Checks):
    """Pairs that differ in one part of the form."""

    def check_apart(self, first, second):
        self.assertNotEqual(shield_after(first).form(), shield_after(second).form())
        self.check_difference(first, second)

    def check_same(self, first, second):
        self.assertEqual(shield_after(first).form(), shield_after(second).form())
        self.check_difference(first, second)

    def test_the_same(self):
        self.check_same([], [])
        self.check_same([], [("hear", 0, (1,)), RESTART, ("clock", 0, 0), ("sync_names", 0), ("signal", 0, 1)])
        self.check_same([("clock", 0, 5)], [("clock", 0, 4), ("clock", 0, 5)])
        self.check_same([("lock", 0, 0), ("lock", 0, 1)], [("lock", 0, 1), ("lock", 0, 0)])
        self.check_same([("start", 0, 1), ("map", 0, 1, 0)], [("map", 0, 1, 0), ("start", 0, 1)])

    def test_threads_and_locks(self):
        starts = [("start", 0, 1), ("start", 0, 2)]
        self.check_apart([], starts)
        self.check_apart(starts, starts + [("end", 1)])
        self.check_apart(starts + [("end", 2)], starts + [("end", 1)])
        self.check_apart(starts, starts + [RESTART])
        self.check_apart(starts, starts + [("lock", 1, 0)])
        self.check_apart(starts + [("lock", 2, 0)], starts + [("lock", 1, 0)])
        self.check_apart(starts + [("lock", 1, 1)], starts + [("lock", 1, 0)])

    def test_times(self):
        self.check_apart([], [("clock", 0, 1)])
        self.check_apart([("clock", 0, 65535)], [("clock", 0, 65534)])

    def test_memory(self):
        self.check_apart([], [("map", 0, 1, 0)])
        self.check_apart([("map", 0, 2, 0)], [("map", 0, 1, 0)])
        self.check_apart([("map", 0, 2, 65534)], [("map", 0, 1, 65534)])
        self.check_apart([("map", 0, 1000, 64536)], [("map", 0, 999, 64536)])
        self.check_apart([("map", 0, 5, 10), ("map", 0, 5, 15)], [("map", 0, 5, 10), ("map", 0, 6, 15)])
        self.check_apart([("map", 0, 5, 10), ("map", 0, 5, 15)], [("map", 0, 4, 10), ("map", 0, 5, 15)])
        self.check_apart([("map", 0, 10, 10)], [("map", 0, 5, 10), ("map", 0, 5, 15)])
        self.check_apart([("map", 0, 1, 10)], [("map", 0, 1, 11)])

    def test_stamps(self):
        self.check_apart(FILE, FILE + [("create", 0, 0, 1, False)])
        self.check_apart([], [("create", 0, 0, 0, True), ("remove", 0, 0, True), ("sync_names", 0)])
        self.check_apart([RESTART], [("restart", ("create", 0, 0, 0)), ("look", 0, 0, None)])

    def test_stamps_where_there_are_many_pairs(self):
        self.check_apart(many_pairs(60), many_pairs(60) + [("create", 0, 0, 30, False)])

    def test_names(self):
        self.check_apart([], FILE)
        self.check_apart(FILE, FILE[:1])
        self.check_apart(FILE[:1] + [RESTART], FILE[:1])
        self.check_apart(FILE, FILE[:1] + [RESTART])
        self.check_apart(FILE + [("rename", 0, 0, 1, True)], FILE)
        self.check_apart(FILE + [("rename", 0, 0, 1, True)], FILE + [("rename", 0, 0, 1, True), ("sync_names", 0)])
        self.check_apart(many_pairs(60), many_pairs(58))
        self.check_apart(many_pairs(60), many_pairs(60) + [RESTART])

    def test_names_that_may_survive_of_some_names_now(self):
        both = FILE + [("restart", ("rename", 0, 0, 1)), ("create", 0, 3, 1, True)]
        self.check_apart(both, both + [("sync_names", 0)])
        self.check_apart(both + [("look", 0, 0, 0)], both + [("look", 0, 1, 0)])
        self.check_apart(both, both + [RESTART])

    def test_pages(self):
        write = [("write", 0, 0, 0, (1,), True)]
        sync = [("sync", 0, 0, True)]
        self.check_apart(FILE, FILE + write)
        self.check_apart(FILE + write, FILE + write + sync)
        self.check_apart(FILE + write, FILE + write + [RESTART])
        self.check_apart(FILE + write + [RESTART], FILE + write + [RESTART, ("read", 0, 0, 0, (1,))])
        self.check_apart(FILE + write + [RESTART], FILE + write + [RESTART, ("read", 0, 0, 0, ())])
        self.check_apart(FILE + write, FILE + [("write", 0, 0, 1, (1,), True)])
        other = [("write", 0, 0, 0, (2,), True)]
        self.check_apart(FILE + write + other, FILE + other + write)
        self.check_same(FILE + write + other + [RESTART], FILE + other + write + [RESTART])
        self.check_apart(FILE + write + other + [RESTART], FILE + write + [RESTART])

    def test_pages_of_files_that_only_surviving_names_have(self):
        write, remove = [("write", 0, 0, 0, (1,), True)], [("remove", 0, 0, True)]
        self.check_apart(FILE + remove, FILE + write + remove)
        self.check_apart(FILE + write + [("sync", 0, 0, True)] + remove, FILE + write + remove)
        back = [("write", 0, 0, 0, (), True)]
        self.check_same(FILE + write + back + remove, FILE + write + remove)
        self.check_same(FILE + write + remove + [("sync_names", 0)], FILE + remove + [("sync_names", 0)])

    def test_who_waits(self):
        self.check_apart(waiting((0, 0)), waiting((0, 1)))
        self.check_apart(waiting((0, 0)), waiting((1, 0)))
        self.check_apart(waiting((0, 0)), [("start", 0, 1)])
        self.check_apart(waiting((0, 0)), [("start", 0, 1), ("end", 1)])
        self.check_apart(waiting((0, 0)), waiting((0, 0)) + [("lock", 0, 0)])
        for condition in (0, 1):
            for signals in ([], [("signal", 0, condition)]):
                for locks in ([], [("lock", 0, 0)], [("lock", 0, 1)], [("lock", 0, 0), ("lock", 0, 1)]):
                    waits = waiting((condition, 0)) + signals + locks
                    self.check_apart(waits, [("start", 0, 1), ("end", 1)] + locks)
                    self.check_apart(waits, waiting((condition, 1)) + signals + locks)
                    self.check_apart(waits, waiting((1 - condition, 1)) + signals + locks)
        one, other = waiting((1, 0), (1, 0), (0, 1)), waiting((1, 0), (0, 0), (0, 1))
        for signals in ([], [("signal", 0, 0)], [("signal", 0, 1)], [("signal", 0, 0), ("signal", 0, 1)]):
            self.check_apart(one + signals, other + signals)
        self.check_apart(waiting((0, 0), (1, 0)), waiting((1, 0), (0, 0)))
        self.check_apart(waiting((0, 0), (0, 1)), waiting((0, 1), (0, 0)))

    def test_who_has_been_woken(self):
        signal = ("signal", 0, 0)
        self.check_apart(waiting((0, 0)), waiting((0, 0)) + [signal])
        self.check_same(waiting((0, 0)) + [signal], waiting((1, 0)) + [("signal", 0, 1)])
        self.check_same(waiting((0, 0)) + [signal], waiting((0, 0)) + [signal, signal])
        two = waiting((0, 0), (0, 0))
        self.check_apart(two + [signal], two)
        self.check_apart(two + [signal], two + [signal, signal])
        self.check_same(two + [("signal_all", 0, 0)], two + [signal, signal])
        between = waiting((0, 0)) + [signal] + [("start", 0, 2), ("lock", 2, 0), ("wait", 2, 0, 0)]
        self.check_apart(two + [signal], between)
        self.check_same(two + [signal, signal], between + [signal])

    def test_who_has_been_woken_while_locks_are_held(self):
        signal = ("signal", 0, 0)
        two = waiting((0, 0), (0, 1)) + [("lock", 0, 0), ("lock", 0, 1)]
        self.check_apart(two + [signal], two)
        self.check_apart(two + [signal], two + [signal, signal])

    def test_blocks_of_one_line(self):
        def line(signals):
            events = []
            for thread, many in enumerate(signals, 1):
                events += [("start", 0, thread), ("lock", thread, 0), ("wait", thread, 0, 0)]
                events += [("signal", 0, 0)] * many
            return events
        lines = [line(signals) for signals in (
            (0, 0, 0, 0), (0, 1, 0, 0), (0, 0, 1, 0), (0, 0, 0, 1), (0, 1, 0, 1), (0, 0, 0, 2), (0, 0, 1, 1), (1, 0, 0, 1),
            (1, 0, 1, 0), (1, 0, 0, 0), (0, 2, 0, 0), (0, 2, 0, 1), (1, 1, 0, 1), (0, 1, 1, 1), (0, 0, 0, 3), (0, 0, 2, 1),
        )]
        for first in lines:
            for second in lines:
                self.check_difference(first, second)

    def test_a_long_line(self):
        line = [("lock", 0, 3)]
        for thread in range(1, 31):
            line += [("start", 0, thread), ("lock", thread, thread % 3), ("wait", thread, 0, thread % 3)]
            line += [("signal", 0, 0)] if thread % 4 == 0 else []
        self.check_apart(line, line + [("signal", 0, 0)])
        self.check_apart(line + [("woken", 4)], line + [("woken", 3), ("unlock", 3, 0), ("lock", 0, 1)])

    def test_lists_are_new_and_arguments_are_kept(self):
        first, second = [("clock", 0, 5)], [("clock", 0, 4)]
        _, future = difference(first, second)
        future.append("x")
        self.assertEqual((first, second), ([("clock", 0, 5)], [("clock", 0, 4)]))
        self.assertNotIn("x", difference(first, second)[1])
