"""Points 26 to 29: refusals, and who gives and accepts them."""

import unittest

from honestrun.refusals import judge, why
from honestrun.shields import taken
from tests.alone import EVENTS, PART_RULES, numbers_of
from tests.helpers import NO_CALL, TOO_MANY, many_pairs, rule, waiting

FILE = [("create", 0, 0, 0, True), ("sync_names", 0)]
NOISE = [("hear", 0, (1,)), ("clock", 0, 1), ("map", 0, 5, 50000), ("signal", 0, 1), ("look", 0, 3, None)]

# For each rule a history whose last event it refuses, after events of all parts and some of none.
BROKEN = {
    1: NOISE + [("lock", 0, 0), ("clock", 0, 9), ("lock", 0, 0)],
    2: NOISE + waiting((0, 0)) + [("hear", 0, ()), ("woken", 1)],
    3: NOISE + waiting((0, 0)) + [("signal", 0, 0), ("lock", 0, 0), ("clock", 0, 2), ("woken", 1)],
    4: NOISE + [("clock", 0, 5), ("restart", None), ("lock", 0, 0), ("clock", 0, 7), ("clock", 0, 6)],
    5: NOISE + [("map", 0, 10, 5), ("unmap", 0, 5), ("hear", 0, ()), ("map", 0, 10, 50), ("map", 0, 1, 59)],
    6: FILE + NOISE + [("look", 0, 0, None)],
    7: FILE + NOISE + [("create", 0, 0, 1, True)],
    8: FILE + NOISE + [("remove", 0, 1, True)],
    9: FILE + NOISE + [("rename", 0, 0, 1, False)],
    10: FILE + NOISE + [("read", 0, 0, 0, None)],
    11: FILE + [("write", 0, 0, 0, (1,), True)] + NOISE + [("sync", 0, 0, True), ("read", 0, 0, 0, (2,))],
    12: FILE + NOISE + [("write", 0, 0, 0, (1,), False)],
    13: FILE + NOISE + [("sync", 0, 0, False)],
}
PART_OF = {number: part for part, rules in PART_RULES.items() for number in rules}


def refusal(history, number, at=-1):
    """The refusal of an event of a history by a rule, as point 27 says."""
    at %= len(history)
    return (at, number, PART_OF[number], numbers_of(history, PART_OF[number], at))


class Refusals(unittest.TestCase):
    def accepts(self, history, found):
        kept = list(history)
        answer = judge(history, found)
        self.assertIs(answer, True, (history, found))
        self.assertEqual(history, kept)

    def denies(self, history, found):
        kept = list(history)
        answer = judge(history, found)
        self.assertIs(answer, False, (history, found))
        self.assertEqual(history, kept)


class Why(Refusals):
    def test_each_rule(self):
        self.assertEqual(sorted(BROKEN), list(range(1, 14)))
        for number, history in BROKEN.items():
            with self.subTest(rule=number):
                self.assertEqual(taken(history), (len(history) - 1, rule(number)))
                kept = list(history)
                self.assertEqual(why(history), refusal(history, number))
                self.assertEqual(history, kept)
                self.accepts(history, why(history))

    def test_the_kinds_of_what_is_returned(self):
        found = why([("clock", 0, 5), ("clock", 0, 4)])
        self.assertEqual(found, (1, 4, "clock", (0,)))
        self.assertEqual([type(member) for member in found], [int, int, str, tuple])

    def test_events_of_the_part_and_no_others(self):
        self.assertEqual(why(BROKEN[1]), (7, 1, "threads", (3, 5)))
        self.assertEqual(why(BROKEN[2]), (9, 2, "threads", (3, 5, 6, 7)))
        self.assertEqual(why(BROKEN[4]), (9, 4, "clock", (1, 5, 8)))
        self.assertEqual(why(BROKEN[5]), (9, 5, "maps", (2, 5, 6, 8)))
        self.assertEqual(why(BROKEN[6]), (7, 6, "names", (0, 1, 6)))
        self.assertEqual(why(BROKEN[11]), (9, 11, "pages", (2, 8)))

    def test_a_restart_is_of_four_parts(self):
        start = [("restart", None), ("restart", ("sync_names", 0))]
        for number, event in ((1, ("lock", 0, 0)), (5, ("map", 0, 1, 0))):
            self.assertEqual(why(start + [event, event])[3], (0, 1, 2))
            self.assertEqual(why(start + [event, event])[1], number)
        self.assertEqual(why(start + [("look", 0, 0, 0)]), (2, 6, "names", (0, 1)))
        file = [("create", 0, 0, 0, True), ("sync_names", 0)]
        self.assertEqual(why(file + start + [("read", 0, 0, 0, (1,))]), (4, 11, "pages", (2, 3)))
        self.assertEqual(why(start + [("clock", 0, 1), ("clock", 0, 0)]), (3, 4, "clock", (2,)))

    def test_events_of_two_parts(self):
        file = FILE + [("write", 0, 0, 0, (1,), True), ("sync", 0, 0, True), ("read", 0, 0, 0, (1,))]
        self.assertEqual(why(file + [("look", 0, 0, None)]), (5, 6, "names", (0, 1, 2, 3, 4)))
        self.assertEqual(why(file + [("read", 0, 0, 0, ())]), (5, 11, "pages", (2, 3, 4)))
        # Rule 10 comes before rule 11.
        gone = file + [("remove", 0, 0, True), ("read", 0, 0, 0, ())]
        self.assertEqual(why(gone), (6, 10, "names", (0, 1, 2, 3, 4, 5)))

    def test_only_the_first_event_that_is_not_taken(self):
        history = [("clock", 0, 5), ("clock", 0, 4), ("clock", 0, 3), ("lock", 0, 0), ("lock", 0, 0)]
        self.assertEqual(why(history), (1, 4, "clock", (0,)))
        self.assertEqual(why(history[1:]), (1, 4, "clock", (0,)))

    def test_none(self):
        self.assertIsNone(why([]))
        self.assertIsNone(why(NOISE))
        self.assertIsNone(why([history for number in (6, 12) for history in BROKEN[number][:-1]][:7]))

    def test_the_first_event_is_no_call(self):
        broken = [("clock", 0, 5), ("clock", 0, 4)]
        for event in (("end", 0), ("clock", 1, 4), ("lock", 0, 4), ("map", 0, 0, 0), ("unmap", 0, 0), ("look", 0, 4, None),
                      ("read", 0, 0, 0, None), ("restart", ("sync_names", 3)), ("hear", 2, ()), ("woken", 1)):
            self.assertEqual(taken([event]), (0, NO_CALL))
            self.assertIsNone(why([event]))
            self.assertIsNone(why([event] + broken))
            self.assertEqual(why(broken + [event]), (1, 4, "clock", (0,)))

    def test_the_first_event_gives_too_many_possibilities(self):
        history = many_pairs(60) + [("create", 0, 2, 30, True)]
        self.assertEqual(taken(history), (59, TOO_MANY))
        self.assertIsNone(why(history))
        self.assertIsNone(why(history + [("clock", 0, 5), ("clock", 0, 4)]))


class Forms(Refusals):
    """Point 27: what differs from a refusal that is accepted."""

    def test_another_event(self):
        for number, history in BROKEN.items():
            at, _, part, numbers = why(history)
            for other in list(range(-len(history) - 2, len(history) + 3)) + [65535, -65535]:
                if other != at:
                    self.denies(history, (other, number, part, numbers))
                    if 0 <= other < len(history):
                        self.denies(history, refusal(history, number, other))
            # Of the event that is one too far, the numbers are those of all events.
            every = numbers_of(history, part, len(history))
            self.denies(history, (len(history), number, part, every))
            self.denies(history, (-1, number, part, numbers))
            self.denies(history, (-1, number, part, ()))

    def test_another_rule(self):
        for number, history in BROKEN.items():
            at, _, part, numbers = why(history)
            for other in range(-2, 20):
                if other != number:
                    self.denies(history, (at, other, part, numbers))
                    if other in PART_OF:
                        self.denies(history, refusal(history, other))
                        self.denies(history, (at, other, PART_OF[other], numbers))

    def test_another_part(self):
        for number, history in BROKEN.items():
            at, _, part, numbers = why(history)
            for other in [*EVENTS, "", "lock", "Clock", "page", "shield", "clocks"]:
                if other != part:
                    self.denies(history, (at, number, other, numbers))
                    if other in EVENTS:
                        self.denies(history, (at, number, other, numbers_of(history, other, at)))

    def test_no_rule_and_no_part(self):
        for history in BROKEN.values():
            for number, part in ((0, ""), (14, "names"), (0, "None"), (99, "other"), (-1, "pages")):
                self.denies(history, (len(history) - 1, number, part, ()))

    def test_other_numbers(self):
        for number, history in BROKEN.items():
            at, _, part, numbers = why(history)
            others = [numbers + (at,), numbers + (-1,), (-1,) + numbers, numbers + (at + 1,), numbers + (65535,)]
            others += [numbers[:skip] + numbers[skip + 1:] for skip in range(len(numbers))]
            others += [tuple(sorted(numbers + (more,))) for more in range(at) if more not in numbers]
            others += [numbers + numbers[-1:], numbers[:1] + numbers, numbers[::-1], numbers[1:] + numbers[:1], ()]
            for other in others:
                if other != numbers:
                    self.denies(history, (at, number, part, other))

    def test_the_part_needs_events_that_are_left_out(self):
        history = waiting((0, 0)) + [("lock", 0, 0), ("unlock", 0, 0), ("woken", 1)]
        self.accepts(history, (5, 2, "threads", (0, 1, 2, 3, 4)))
        self.denies(history, (5, 2, "threads", (0, 1, 2)))

    def test_an_event_of_another_part(self):
        history = [("clock", 0, 5), ("clock", 0, 4), ("hear", 0, ()), ("lock", 0, 0), ("lock", 0, 0), ("read", 0, 0, 0, None)]
        for number in PART_OF:
            for at in range(len(history)):
                if (at, number) not in ((1, 4), (4, 1)):
                    self.denies(history, refusal(history, number, at))
        self.accepts(history, refusal(history, 4, 1))
        self.accepts(history, refusal(history, 1, 4))

    def test_the_empty_history(self):
        for number, part in PART_OF.items():
            for at in (-1, 0, 1):
                self.denies([], (at, number, part, ()))
                self.denies([], (at, number, part, (0,)))

    def test_events_behind_the_event_are_not_looked_at(self):
        for number, history in BROKEN.items():
            found = why(history)
            for more in ([("end", 0)], [("clock", 0, 0)], [("look", 0, 9, None)], history):
                self.accepts(history + more, found)


class PartsAlone(Refusals):
    """Point 28: where a part alone and the whole shield differ, and where a part alone is told what is no call."""

    def accepts_last(self, history, number):
        self.accepts(history, refusal(history, number))

    def denies_last(self, history, number):
        self.denies(history, refusal(history, number))

    def denies_all(self, history):
        """No part refuses any event."""
        for at in range(len(history)):
            for number in PART_OF:
                self.denies(history, refusal(history, number, at))

    def test_other_parts_do_not_matter(self):
        # The whole shield does not take the first event; the part is not told it.
        wrong = [("hear", 7, ()), ("clock", 9, 65535), ("map", 9, 0, 0), ("lock", 9, 9), ("look", 0, 9, None), ("end", 0),
                 ("sync_names", 3), ("unmap", 0, 9), ("woken", 0), ("rename", 0, 0, 1, True)]
        for number, history in BROKEN.items():
            for first in wrong:
                if first[0] not in EVENTS[PART_OF[number]]:
                    self.assertIsNotNone(taken([first]))
                    self.accepts_last([first] + history, number)

    def test_the_part_takes_its_own_events(self):
        # An event that the part does not take stands before.
        self.denies([("clock", 0, 5), ("clock", 0, 4), ("clock", 0, 3)], refusal([("clock", 0, 1)] * 3, 4))
        for number, wrong in (
            (1, ("lock", 0, 4)), (1, ("end", 0)), (1, ("unlock", 0, 3)), (1, ("start", 0, 9)), (1, ("woken", 9)),
            (1, ("lock", 9, 3)), (2, ("lock", 0, 4)), (3, ("end", 0)), (5, ("map", 0, 0, 0)), (5, ("unmap", 0, 7)),
            (5, ("map", 0, 1, 50000)), (6, ("look", 0, 4, None)), (7, ("create", 0, 1, 9, True)), (8, ("look", 0, 0, 7)),
            (9, ("write", 0, 9, 0, (), False)), (10, ("sync", 0, 9, False)), (11, ("read", 0, 8, 0, (5,))),
            (12, ("read", 0, 0, 2, None)), (13, ("restart", ("sync", 0, 9))),
        ):
            history = BROKEN[number]
            self.accepts_last(history, number)
            self.denies_last(history[:-1] + [wrong] + history[-1:], number)

    def test_clock_looks_at_no_calling_thread(self):
        self.accepts_last([("clock", 7, 5), ("clock", 8, 4)], 4)
        self.accepts_last([("start", 0, 1), ("end", 1), ("clock", 1, 5), ("clock", 1, 4)], 4)
        self.denies_last([("clock", 7, 5), ("clock", 8, 5)], 4)
        self.accepts_last([("clock", 0, 5), ("restart", ("sync", 7, 9)), ("clock", 0, 4)], 4)

    def test_maps_look_at_cells_and_addresses_only(self):
        self.accepts_last([("map", 7, 5, 50), ("map", 8, 1, 54)], 5)
        self.denies_last([("map", 7, 5, 50), ("unmap", 9, 50), ("map", 8, 1, 54)], 5)
        for wrong in (("map", 0, 0, 54), ("map", 0, 1001, 54), ("map", 0, 2, 65535)):
            self.denies_last([("map", 0, 5, 50), ("map", 0, 1, 65535), wrong], 5)
            self.denies_last([("map", 0, 5, 50), wrong, ("map", 0, 5, 50)], 5)
        self.accepts_last([("map", 0, 1, 65535), ("map", 0, 1000, 64536)], 5)
        self.denies_last([("map", 0, 5, 50), ("unmap", 0, 51), ("map", 0, 5, 50)], 5)
        self.denies_last([("map", 0, 5, 50), ("unmap", 0, 50), ("unmap", 0, 50), ("map", 0, 5, 50), ("map", 0, 5, 50)], 5)

    def test_maps_do_not_look_at_what_a_restart_cut(self):
        for cut in (None, ("sync_names", 7), ("create", 0, 9, 9), ("remove", 7, 0), ("write", 0, 9, 9, ()), ("sync", 0, 9)):
            history = [("map", 0, 5, 50), ("restart", cut), ("map", 0, 5, 50)]
            self.denies_last(history, 5)
            self.accepts_last(history + [("map", 0, 5, 50)], 5)

    def test_threads_look_at_the_threads_of_their_own_events(self):
        for caller in (1, 7):
            self.denies_last([("lock", 0, 0), ("lock", caller, 0)], 1)
            self.denies_last([("lock", caller, 0), ("lock", 0, 0)], 1)
            for event in (("start", caller, 1), ("lock", caller, 3), ("unlock", caller, 1), ("wait", caller, 0, 1),
                          ("signal", caller, 0), ("signal_all", caller, 0), ("woken", caller), ("end", caller)):
                self.denies_last([("lock", 0, 0), event, ("lock", 0, 0)], 1)
        self.accepts_last([("lock", 0, 0), ("start", 0, 1), ("lock", 1, 0)], 1)
        # Of other events they do not look at the calling thread.
        others = [("hear", 9, ()), ("clock", 9, 1), ("map", 9, 1, 0), ("look", 9, 0, None), ("sync_names", 9)]
        self.accepts_last([("lock", 0, 0)] + others + [("lock", 0, 0)], 1)

    def test_threads_do_not_look_at_what_a_restart_cut(self):
        for cut in (None, ("sync_names", 7), ("create", 0, 9, 9), ("remove", 7, 0), ("write", 0, 9, 9, ()), ("sync", 0, 9)):
            history = [("lock", 0, 0), ("restart", cut), ("lock", 0, 0)]
            self.denies_last(history, 1)
            self.accepts_last(history + [("lock", 0, 0)], 1)

    def test_threads_look_at_all_that_their_events_need(self):
        start = waiting((0, 0)) + [("start", 0, 2), ("lock", 2, 1), ("lock", 0, 2), ("lock", 0, 3)]
        self.accepts_last(start + [("lock", 2, 2)], 1)
        for wrong in (
            ("start", 0, 2), ("start", 0, 4), ("end", 0), ("end", 2), ("end", 1), ("lock", 0, 4), ("unlock", 2, 2),
            ("unlock", 0, 0), ("wait", 0, 0, 2), ("wait", 2, 0, 2), ("wait", 2, 2, 1), ("signal", 0, 2),
            ("signal_all", 0, 2), ("woken", 2), ("woken", 0),
        ):
            self.assertEqual(taken(start + [wrong]), (len(start), NO_CALL))
            self.denies_last(start + [wrong, ("lock", 2, 2)], 1)
        two_locks = start[:-2] + [("lock", 2, 2), ("wait", 2, 0, 1), ("lock", 0, 2)]
        self.denies_last(two_locks, 1)

    def test_names_look_at_no_calling_thread(self):
        for number in (6, 7, 8, 9, 10, 12, 13):
            history = [event[:1] + (7,) + event[2:] for event in BROKEN[number]]
            self.assertEqual(taken(history), (0, NO_CALL))
            self.accepts_last(history, number)
        self.denies_last([("restart", ("create", 7, 0, 0)), ("look", 0, 0, 0)], 6)
        self.accepts_last([("restart", ("create", 7, 0, 0)), ("look", 0, 0, 1)], 6)

    def test_names_look_at_names_stamps_and_pages(self):
        for wrong in (
            ("look", 0, 4, None), ("create", 0, 4, 1, True), ("create", 0, 1, 0, True), ("create", 0, 1, 2, True),
            ("remove", 0, 4, False), ("rename", 0, 4, 0, False), ("rename", 0, 1, 4, False), ("read", 0, 1, 0, None),
            ("read", 0, 0, 2, ()), ("write", 0, 1, 0, (), False), ("write", 0, 0, 2, (), True), ("sync", 0, 1, False),
        ):
            self.denies_last(FILE + [wrong, ("look", 0, 3, 0)], 6)
            # The same is seen of a call that a restart cut.
            if wrong[0] not in ("look", "read"):
                self.denies_last(FILE + [("restart", wrong[:-1]), ("look", 0, 3, 1)], 6)
        for wrong, number in ((("look", 0, 4, 0), 6), (("create", 0, 0, 2, True), 7), (("remove", 0, 4, True), 8),
                              (("rename", 0, 1, 4, True), 9), (("read", 0, 0, 2, None), 10), (("read", 0, 1, 0, ()), 10),
                              (("write", 0, 0, 2, (), False), 12), (("write", 0, 1, 0, (), True), 12),
                              (("sync", 0, 1, True), 13)):
            self.denies_last(FILE + [wrong], number)
        for cut in (("create", 0, 3, 1), ("remove", 0, 3), ("rename", 0, 0, 3), ("write", 0, 0, 1, ()), ("sync", 0, 0)):
            self.accepts_last(FILE + [("restart", cut), ("look", 0, 2, 0)], 6)

    def test_names_do_not_look_at_texts(self):
        history = FILE + [("read", 0, 0, 0, (9,)), ("look", 0, 0, None)]
        self.assertEqual(taken(history), (2, rule(11)))
        self.accepts_last(history, 6)
        # A read that the pages refuse tells that the file has a name.
        history = [("create", 0, 0, 0, True), ("restart", None), ("read", 0, 0, 0, (9,)), ("look", 0, 0, None)]
        self.accepts_last(history, 6)
        self.denies_last(history[:2] + history[3:], 6)

    def test_names_have_a_limit(self):
        history = many_pairs(60)
        self.accepts_last(history + [("look", 0, 3, 0)], 6)
        for wrong in (("create", 0, 2, 30, True), ("rename", 0, 0, 1, True), ("restart", ("create", 0, 2, 30))):
            self.assertEqual(taken(history + [wrong]), (59, TOO_MANY))
            self.denies_last(history + [wrong, ("look", 0, 3, 0)], 6)
        for number in (7, 9):
            self.denies_last(history + [("create", 0, 2, 30, True)], number)
            self.denies_last(history + [("rename", 0, 0, 1, True)], number)
        # What is refused is refused before the possibilities are counted.
        self.accepts_last(history + [("create", 0, 2, 30, False)], 7)
        # The whole shield takes none of these, as the calling thread does not run.
        other = [event[:1] + (7,) + event[2:] for event in many_pairs(61)]
        self.assertEqual(taken(other), (0, NO_CALL))
        self.accepts_last(other[:59] + [("look", 0, 3, 0)], 6)
        self.denies_last(other + [("look", 0, 3, 0)], 6)
        # The limit is not one of the other parts.
        over = history + [("create", 0, 2, 30, True)]
        self.accepts_last(over + [("lock", 0, 0), ("lock", 0, 0)], 1)
        self.accepts_last(over + [("read", 0, 30, 0, (1,))], 11)

    def test_pages_look_at_nothing_of_point_8(self):
        for caller, stamp, page in ((0, 0, 0), (7, 0, 1), (0, 9, 0), (0, 0, 2), (9, 65535, 65535)):
            read, write = ("read", caller, stamp, page), ("write", caller, stamp, page)
            self.accepts_last([read + ((1,),)], 11)
            self.denies_last([read + ((),)], 11)
            self.accepts_last([write + ((1,), True), read + ((),)], 11)
            self.denies_last([write + ((1,), True), read + ((1,),)], 11)
            sync = ("sync", caller, stamp, True)
            self.denies_last([write + ((1,), True), ("restart", None), read + ((),)], 11)
            self.accepts_last([write + ((1,), True), sync, ("restart", None), read + ((),)], 11)
            cut = ("restart", write + ((1,),))
            self.denies_last([cut, read + ((1,),)], 11)
            self.denies_last([cut, read + ((),)], 11)
            self.accepts_last([cut, read + ((2,),)], 11)
            self.accepts_last([cut, read + ((1,),), read + ((),)], 11)

    def test_pages_of_each_stamp_and_number_are_apart(self):
        history = [("write", 0, 3, 2, (1,), True)]
        for stamp, page in ((3, 0), (3, 1), (3, 3), (2, 2), (4, 2)):
            self.denies_last(history + [("read", 0, stamp, page, ())], 11)
            self.accepts_last(history + [("read", 0, stamp, page, (1,))], 11)
        for stamp, accepted in ((3, True), (2, False)):
            after = history + [("sync", 0, stamp, True), ("restart", None), ("read", 0, 3, 2, ())]
            self.assertIs(judge(after, refusal(after, 11)), accepted)

    def test_pages_do_not_look_at_names(self):
        # No name has the file, so rule 10 comes first for the shield.
        history = FILE + [("remove", 0, 0, True), ("read", 0, 0, 0, (1,))]
        self.assertEqual(taken(history), (3, rule(10)))
        self.accepts_last(history, 11)
        self.accepts_last(history, 10)
        # A write that no honest system would have done.
        history = [("write", 0, 0, 0, (1,), True), ("read", 0, 0, 0, ())]
        self.accepts_last(history, 11)

    def test_for_pages_a_read_with_none_changes_nothing(self):
        for read in (("read", 0, 0, 0, None), ("read", 9, 9, 9, None)):
            self.denies_all([read])
            self.accepts_last([read, ("read", 0, 0, 0, (1,))], 11)
            history = [("write", 0, 0, 0, (1,), True), ("restart", None), read]
            for text in ((), (1,)):
                self.denies_last(history + [("read", 0, 0, 0, text)], 11)

    def test_for_pages_what_was_not_done_changes_nothing(self):
        write, sync = ("write", 0, 0, 0, (1,), False), ("sync", 0, 0, False)
        self.accepts_last([write, ("read", 0, 0, 0, (1,))], 11)
        self.denies_last([write, ("read", 0, 0, 0, ())], 11)
        self.accepts_last([write, ("restart", None), ("read", 0, 0, 0, (1,))], 11)
        history = [("write", 0, 0, 0, (1,), True), sync, ("restart", None), ("read", 0, 0, 0, ())]
        self.denies_last(history, 11)
        history[1] = ("sync", 0, 0, True)
        self.accepts_last(history, 11)

    def test_an_honest_history_that_is_too_much_for_the_shield(self):
        history = many_pairs(80)
        self.assertEqual(taken(history), (59, TOO_MANY))
        self.denies_all(history)


if __name__ == "__main__":
    unittest.main()
