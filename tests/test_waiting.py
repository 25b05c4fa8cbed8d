"""Threads that wait at conditions (points 3, 5, 17, 18 and 23)."""

from tests.helpers import NO_CALL, Checks, part, rule, running, waiting, woken_and_waits

TWO = waiting((0, 0), (0, 0))
THREE = waiting((0, 0), (0, 1), (0, 2))
SIGNAL = ("signal", 0, 0)


class Waits(Checks):
    def test_who_may_wait(self):
        events = [("start", 0, 1), ("start", 0, 2), ("lock", 0, 0), ("lock", 1, 1)]
        self.check_all(events, [
            (("wait", 1, 0, 1), None), (("wait", 1, 1, 1), None), (("wait", 1, 2, 1), NO_CALL), (("wait", 1, 0, 0), NO_CALL),
            (("wait", 1, 0, 2), NO_CALL), (("wait", 1, 0, 4), NO_CALL), (("wait", 2, 0, 1), NO_CALL),
            (("wait", 0, 0, 0), NO_CALL), (("wait", 0, 0, 1), NO_CALL), (("wait", 3, 0, 1), NO_CALL),
        ])
        events += [("lock", 1, 3)]
        self.check_all(events, [(("wait", 1, 0, 1), NO_CALL), (("wait", 1, 0, 3), NO_CALL)])

    def test_a_thread_that_waits_gives_up_its_lock_and_does_not_run(self):
        events = waiting((0, 2))
        self.assertEqual(running(events), (0,))
        self.assertEqual(part(events, 2), ())
        self.check_all(events, [
            (("hear", 1, ()), NO_CALL), (("end", 1), NO_CALL), (("unlock", 1, 2), NO_CALL), (("wait", 1, 0, 2), NO_CALL),
            (("lock", 0, 2), None), (("woken", 1), rule(2)), (("woken", 0), NO_CALL), (("woken", 2), NO_CALL),
        ])

    def test_a_thread_that_goes_on_holds_its_lock_again_and_runs(self):
        events = waiting((0, 2)) + [SIGNAL, ("woken", 1)]
        self.assertEqual(running(events), (0, 1))
        self.assertEqual(part(events, 2), ((2, 1),))
        self.assertEqual(woken_and_waits(events), ((), ((), ())))
        self.check_all(events, [
            (("woken", 1), NO_CALL), (("lock", 0, 2), rule(1)), (("unlock", 1, 2), None), (("end", 1), NO_CALL),
            (("wait", 1, 0, 2), None), (("wait", 1, 1, 2), None),
        ])

    def test_a_woken_thread_does_not_run_before_it_goes_on(self):
        events = waiting((0, 2)) + [SIGNAL]
        self.check_all(events, [(("hear", 1, ()), NO_CALL), (("end", 1), NO_CALL), (("woken", 1), None)])

    def test_the_lock_must_be_free(self):
        events = waiting((0, 2)) + [("lock", 0, 2)]
        self.check(events, ("woken", 1), rule(2))
        self.check(events + [SIGNAL], ("woken", 1), rule(3))
        self.check(events + [SIGNAL, ("unlock", 0, 2)], ("woken", 1), None)

    def test_a_restart_loses_those_that_wait(self):
        for signals in ([], [SIGNAL]):
            events = TWO + signals + [("restart", None)]
            self.assertEqual(woken_and_waits(events), ((), ((), ())))
            self.check_all(events, [(("woken", 1), NO_CALL), (("woken", 2), NO_CALL), (("hear", 1, ()), NO_CALL)])


class Signals(Checks):
    def test_conditions(self):
        for kind in ("signal", "signal_all"):
            self.check_all([], [((kind, 0, 0), None), ((kind, 0, 1), None), ((kind, 0, 2), NO_CALL), ((kind, 1, 0), NO_CALL)])

    def test_a_signal_to_nobody_is_lost(self):
        self.check([SIGNAL, ("signal_all", 0, 0)] + waiting((0, 0)), ("woken", 1), rule(2))

    def test_a_signal_at_another_condition(self):
        events = waiting((0, 0), (1, 0))
        self.check_all(events + [SIGNAL], [(("woken", 1), None), (("woken", 2), rule(2))])
        self.check_all(events + [("signal", 0, 1)], [(("woken", 2), None), (("woken", 1), rule(2))])
        self.check_all(events + [("signal_all", 0, 1)], [(("woken", 2), None), (("woken", 1), rule(2))])

    def test_one_signal_wakes_one(self):
        events = TWO + [SIGNAL]
        self.check_all(events, [(("woken", 1), None), (("woken", 2), None)])
        self.check(events + [("woken", 1), ("unlock", 1, 0)], ("woken", 2), rule(2))
        self.check(events + [("woken", 2), ("unlock", 2, 0)], ("woken", 1), rule(2))

    def test_signals_beyond_those_that_wait_are_lost(self):
        events = TWO + [SIGNAL] * 5
        self.assertEqual(woken_and_waits(events), (((1, 0), (2, 0)), ((), ())))
        events += [("start", 0, 3), ("lock", 3, 0), ("wait", 3, 0, 0)]
        self.check(events, ("woken", 3), rule(2))

    def test_a_signal_wakes_none_that_came_later(self):
        events = TWO + [SIGNAL, ("start", 0, 3), ("lock", 3, 0), ("wait", 3, 0, 0)]
        self.check_all(events, [(("woken", 1), None), (("woken", 2), None), (("woken", 3), rule(2))])
        events += [SIGNAL]
        self.check_all(events, [(("woken", 1), None), (("woken", 2), None), (("woken", 3), None)])
        events += [("woken", 1), ("unlock", 1, 0), ("woken", 2), ("unlock", 2, 0)]
        self.check(events, ("woken", 3), rule(2))

    def test_who_goes_on_tells_of_the_others(self):
        events = THREE + [SIGNAL, SIGNAL, ("woken", 3)]
        self.check_all(events, [(("woken", 1), None), (("woken", 2), None)])
        # Of the signals, one came before the thread 4 and one after it.
        events = TWO + [SIGNAL, ("start", 0, 3), ("lock", 3, 1), ("wait", 3, 0, 1), SIGNAL, ("woken", 3)]
        self.check_all(events, [(("woken", 1), None), (("woken", 2), None)])
        events += [("woken", 2), ("unlock", 2, 0)]
        self.check(events, ("woken", 1), rule(2))

    def test_signal_all(self):
        events = THREE + [("signal_all", 0, 0)]
        self.assertEqual(woken_and_waits(events), (((1, 0), (2, 1), (3, 2)), ((), ())))
        self.check(events + [("woken", 2), ("woken", 1)], ("woken", 3), None)
        events += [("start", 0, 4), ("lock", 4, 3), ("wait", 4, 0, 3)]
        self.check(events, ("woken", 4), rule(2))

    def test_a_thread_that_has_been_woken_is_not_woken_again(self):
        events = TWO + [SIGNAL, SIGNAL]
        self.check(events + [("woken", 1), ("unlock", 1, 0)], ("woken", 2), None)

    def test_a_thread_that_waits_again_stands_at_the_end(self):
        events = THREE + [SIGNAL, ("woken", 1), ("wait", 1, 0, 0)]
        self.check_all(events, [(("woken", thread), rule(2)) for thread in (1, 2, 3)])
        self.assertEqual(woken_and_waits(events), ((), ((((((1, 0), (2, 1), (3, 2)), 0),)), ())))


class Blocks(Checks):
    def test_members_are_in_order_and_counted(self):
        self.assertEqual(woken_and_waits(THREE), ((), (((((1, 0), (2, 1), (3, 2)), 0),), ())))
        self.assertEqual(woken_and_waits(THREE + [SIGNAL]), ((), (((((1, 0), (2, 1), (3, 2)), 1),), ())))
        self.assertEqual(woken_and_waits(THREE + [SIGNAL] * 2), ((), (((((1, 0), (2, 1), (3, 2)), 2),), ())))

    def test_each_condition_has_its_blocks(self):
        events = waiting((1, 0), (0, 0), (1, 3)) + [("signal", 0, 1)]
        self.assertEqual(woken_and_waits(events), ((), (((((2, 0),), 0),), ((((1, 0), (3, 3)), 1),))))

    def test_a_new_block_after_a_place_that_counts(self):
        events = TWO + [SIGNAL, ("start", 0, 3), ("lock", 3, 0), ("wait", 3, 0, 0)]
        self.assertEqual(woken_and_waits(events), ((), (((((1, 0), (2, 0)), 1), (((3, 0),), 0)), ())))
        self.assertEqual(woken_and_waits(events + [SIGNAL]), ((), (((((1, 0), (2, 0), (3, 0)), 2),), ())))
        events += [("start", 0, 4), ("lock", 4, 0), ("wait", 4, 0, 0), SIGNAL]
        self.assertEqual(
            woken_and_waits(events), ((), (((((1, 0), (2, 0)), 1), (((3, 0), (4, 0)), 1)), ()))
        )

    def test_the_order_in_a_block_does_not_matter(self):
        events = [("start", 0, 1), ("start", 0, 2), ("lock", 1, 0), ("lock", 2, 1)]
        one = events + [("wait", 1, 0, 0), ("wait", 2, 0, 1), SIGNAL]
        other = events + [("wait", 2, 0, 1), ("wait", 1, 0, 0), SIGNAL]
        self.assertEqual(woken_and_waits(one), woken_and_waits(other))

    def test_those_that_surely_have_been_woken_of_all_conditions(self):
        events = waiting((1, 0), (0, 0), (1, 3)) + [("signal_all", 0, 1), SIGNAL]
        self.assertEqual(woken_and_waits(events), (((1, 0), (2, 0), (3, 3)), ((), ())))
        events += [("start", 0, 4), ("lock", 4, 0), ("wait", 4, 1, 0)]
        self.assertEqual(woken_and_waits(events), (((1, 0), (2, 0), (3, 3)), ((), ((((4, 0),), 0),))))

    def test_who_goes_on_from_a_place_that_does_not_count(self):
        # Places 1 and 2, of which 2 counts, then 3 and 4, of which 4 counts.
        events = TWO + [SIGNAL]
        for thread in (3, 4):
            events += [("start", 0, thread), ("lock", thread, 0), ("wait", thread, 0, 0)]
        events += [SIGNAL]
        blocks = (((1, 0), (2, 0)), 1), (((3, 0), (4, 0)), 1)
        self.assertEqual(woken_and_waits(events), ((), (blocks, ())))
        for thread, left in ((1, 2), (2, 1)):
            shown = ((), ((((((left, 0), (3, 0), (4, 0)), 1),)), ()))
            self.assertEqual(woken_and_waits(events + [("woken", thread)]), shown)
        for thread, left in ((3, 4), (4, 3)):
            shown = ((), (((((1, 0), (2, 0)), 1), (((left, 0),), 0)), ()))
            self.assertEqual(woken_and_waits(events + [("woken", thread)]), shown)
