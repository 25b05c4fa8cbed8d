"""Threads that start and end, locks, and right and wrong numbers (points 1 to 4 and 8)."""

from tests.helpers import NO_CALL, Checks, part, rule, running


class Starts(Checks):
    def test_thread_0_runs_at_the_beginning_and_no_other_one(self):
        self.assertEqual(running([]), (0,))
        self.check_all([], [(("hear", 0, ()), None), (("hear", 1, ()), NO_CALL), (("lock", 1, 0), NO_CALL)])

    def test_numbers_go_up_by_one(self):
        self.check_all([], [
            (("start", 0, 1), None), (("start", 0, 0), NO_CALL), (("start", 0, 2), NO_CALL), (("start", 1, 1), NO_CALL),
        ])
        self.check_all([("start", 0, 1)], [
            (("start", 0, 2), None), (("start", 1, 2), None), (("start", 0, 1), NO_CALL), (("start", 0, 3), NO_CALL),
        ])
        self.assertEqual(running([("start", 0, 1), ("start", 1, 2)]), (0, 1, 2))
        self.assertEqual(part([("start", 0, 1), ("start", 1, 2)], 1), 3)

    def test_numbers_are_not_given_again_after_an_end_or_a_restart(self):
        for events in ([("start", 0, 1), ("end", 1)], [("start", 0, 1), ("restart", None)]):
            self.assertEqual(running(events), (0,))
            self.check_all(events, [
                (("start", 0, 1), NO_CALL), (("start", 0, 2), None), (("hear", 1, ()), NO_CALL), (("end", 1), NO_CALL),
            ])

    def test_threads_run_out_of_order(self):
        self.assertEqual(running([("start", 0, 1), ("start", 0, 2), ("end", 1), ("start", 2, 3)]), (0, 2, 3))

    def test_woken_threads_are_in_their_place_among_those_that_run(self):
        events = [("start", 0, 1), ("start", 0, 2), ("lock", 1, 0), ("wait", 1, 0, 0), ("signal", 0, 0)]
        self.assertEqual(running(events), (0, 2))
        self.assertEqual(running(events + [("woken", 1)]), (0, 1, 2))


class Ends(Checks):
    def test_thread_0_does_not_end(self):
        self.check([], ("end", 0), NO_CALL)
        self.check([("start", 0, 1)], ("end", 0), NO_CALL)
        self.check([("start", 0, 1)], ("end", 1), None)

    def test_a_thread_that_holds_a_lock_does_not_end(self):
        events = [("start", 0, 1), ("lock", 1, 3)]
        self.check(events, ("end", 1), NO_CALL)
        self.check(events + [("unlock", 1, 3)], ("end", 1), None)
        self.check([("start", 0, 1), ("lock", 0, 3)], ("end", 1), None)

    def test_a_thread_that_does_not_run_does_not_end(self):
        self.check([], ("end", 1), NO_CALL)
        self.check([("start", 0, 1), ("end", 1)], ("end", 1), NO_CALL)


class Locks(Checks):
    def test_a_lock_is_held_by_one_thread(self):
        events = [("start", 0, 1), ("lock", 0, 2)]
        self.check_all(events, [
            (("lock", 0, 2), rule(1)), (("lock", 1, 2), rule(1)), (("lock", 1, 1), None), (("lock", 0, 3), None),
            (("unlock", 0, 2), None), (("unlock", 1, 2), NO_CALL), (("unlock", 0, 1), NO_CALL),
        ])
        self.check(events + [("unlock", 0, 2)], ("lock", 1, 2), None)

    def test_there_are_4_locks(self):
        self.check_all([], [(("lock", 0, lock), None if lock < 4 else NO_CALL) for lock in range(7)])
        self.check_all([], [(("unlock", 0, lock), NO_CALL) for lock in range(7)])

    def test_holders_are_in_order_of_the_locks(self):
        events = [("start", 0, 1), ("lock", 0, 3), ("lock", 1, 2), ("lock", 0, 0)]
        self.assertEqual(part(events, 2), ((0, 0), (2, 1), (3, 0)))
        self.assertEqual(part(events + [("unlock", 1, 2)], 2), ((0, 0), (3, 0)))

    def test_nobody_holds_a_lock_after_a_restart(self):
        events = [("lock", 0, 1), ("restart", None)]
        self.assertEqual(part(events, 2), ())
        self.check(events, ("lock", 0, 1), None)
        self.check(events, ("unlock", 0, 1), NO_CALL)
