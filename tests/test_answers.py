"""What `take` and `taken` answer, and in which order things are looked at (points 8 and 20)."""

from honestrun.shields import Shield, taken
from tests.helpers import NO_CALL, TOO_MANY, Checks, many_pairs, rule, shield_after, waiting

FILE = [("create", 0, 0, 0, True), ("sync_names", 0)]

# An event of each kind, by the thread t, that is taken after SETTING if the thread 1 calls it.
SETTING = FILE + [
    ("start", 0, 1), ("start", 0, 2), ("start", 0, 3), ("lock", 1, 1), ("lock", 2, 2), ("wait", 2, 0, 2), ("map", 0, 5, 50),
    ("end", 3),
]
CALLS = [
    ("start", 1, 4), ("lock", 1, 0), ("unlock", 1, 1), ("wait", 1, 0, 1), ("signal", 1, 0), ("signal_all", 1, 0),
    ("clock", 1, 7), ("map", 1, 5, 500), ("unmap", 1, 50), ("look", 1, 0, 0), ("create", 1, 1, 1, True),
    ("remove", 1, 0, True), ("rename", 1, 0, 1, True), ("sync_names", 1), ("read", 1, 0, 0, ()),
    ("write", 1, 0, 0, (1,), True), ("sync", 1, 0, True), ("hear", 1, (1,)),
]
CUTS = [
    ("create", 1, 1, 1), ("remove", 1, 0), ("rename", 1, 0, 1), ("sync_names", 1), ("write", 1, 0, 0, (1,)), ("sync", 1, 0),
]


class CallingThreads(Checks):
    def test_events_of_each_kind_by_a_thread_that_runs(self):
        self.check_all(SETTING, [(event, None) for event in CALLS])
        self.check_all(SETTING, [(("restart", cut), None) for cut in CUTS])
        self.check(SETTING + [("unlock", 1, 1)], ("end", 1), None)

    def test_a_calling_thread_that_does_not_run(self):
        # The thread 2 waits, 3 ended, 4 was not begun, and 1 was lost in a restart.
        for thread in (2, 3, 4):
            for event in CALLS:
                self.check(SETTING, event[:1] + (thread,) + event[2:], NO_CALL)
            for cut in CUTS:
                self.check(SETTING, ("restart", cut[:1] + (thread,) + cut[2:]), NO_CALL)
            self.check(SETTING, ("end", thread), NO_CALL)
        for event in CALLS:
            self.check(SETTING + [("restart", None)], event, NO_CALL)
        for cut in CUTS:
            self.check(SETTING + [("restart", None)], ("restart", cut), NO_CALL)

    def test_woken_is_told_of_threads_that_wait(self):
        self.check_all(SETTING + [("signal", 0, 0)], [
            (("woken", 0), NO_CALL), (("woken", 1), NO_CALL), (("woken", 2), None), (("woken", 3), NO_CALL),
            (("woken", 4), NO_CALL),
        ])

    def test_a_plain_restart_always_is_a_call(self):
        for events in ([], SETTING, SETTING + [("restart", None)]):
            self.check(events, ("restart", None), None)

    def test_a_thread_that_does_not_run_comes_before_all_rules(self):
        self.check_all(FILE + [("clock", 0, 5), ("lock", 0, 0), ("map", 0, 5, 50)], [
            (("lock", 1, 0), NO_CALL), (("clock", 1, 4), NO_CALL), (("map", 1, 5, 50), NO_CALL), (("look", 1, 0, 1), NO_CALL),
            (("create", 1, 0, 1, True), NO_CALL), (("remove", 1, 0, False), NO_CALL),
            (("rename", 1, 0, 0, False), NO_CALL), (("read", 1, 0, 0, None), NO_CALL), (("read", 1, 0, 0, (1,)), NO_CALL),
            (("write", 1, 0, 0, (), False), NO_CALL), (("sync", 1, 0, False), NO_CALL),
        ])


class NoCall(Checks):
    def test_locks_and_conditions_that_do_not_exist(self):
        events = [("start", 0, 1), ("lock", 1, 0)]
        self.check_all(events, [
            (("lock", 0, 3), None), (("lock", 0, 4), NO_CALL), (("lock", 0, 65535), NO_CALL), (("unlock", 0, 4), NO_CALL),
            (("signal", 0, 1), None), (("signal", 0, 2), NO_CALL), (("signal_all", 0, 1), None),
            (("signal_all", 0, 2), NO_CALL), (("wait", 1, 1, 0), None), (("wait", 1, 2, 0), NO_CALL),
            (("wait", 1, 1, 4), NO_CALL),
        ])

    def test_names_that_do_not_exist(self):
        self.check_all(FILE, [
            (("look", 0, 3, None), None), (("look", 0, 4, None), NO_CALL), (("create", 0, 3, 1, True), None),
            (("create", 0, 4, 1, True), NO_CALL), (("create", 0, 4, 1, False), NO_CALL), (("remove", 0, 3, False), None),
            (("remove", 0, 4, False), NO_CALL), (("rename", 0, 0, 3, True), None), (("rename", 0, 0, 4, True), NO_CALL),
            (("rename", 0, 4, 0, False), NO_CALL), (("rename", 0, 4, 4, False), NO_CALL),
            (("rename", 0, 3, 4, False), NO_CALL), (("remove", 0, 65535, False), NO_CALL),
        ])

    def test_names_that_do_not_exist_in_cut_calls(self):
        self.check_all(FILE, [
            (("restart", ("create", 0, 3, 1)), None), (("restart", ("create", 0, 4, 1)), NO_CALL),
            (("restart", ("remove", 0, 3)), None), (("restart", ("remove", 0, 4)), NO_CALL),
            (("restart", ("rename", 0, 0, 3)), None), (("restart", ("rename", 0, 0, 4)), NO_CALL),
            (("restart", ("rename", 0, 4, 0)), NO_CALL), (("restart", ("rename", 0, 3, 4)), NO_CALL),
        ])

    def test_pages_that_do_not_exist(self):
        self.check_all(FILE, [
            (("read", 0, 0, 1, ()), None), (("read", 0, 0, 2, ()), NO_CALL), (("read", 0, 0, 2, None), NO_CALL),
            (("write", 0, 0, 1, (), True), None), (("write", 0, 0, 2, (), True), NO_CALL),
            (("write", 0, 0, 65535, (), False), NO_CALL), (("restart", ("write", 0, 0, 1, ())), None),
            (("restart", ("write", 0, 0, 2, ())), NO_CALL),
        ])

    def test_stamps(self):
        self.check_all(FILE, [
            (("create", 0, 1, 0, True), NO_CALL), (("create", 0, 1, 1, True), None), (("create", 0, 1, 2, True), NO_CALL),
            (("create", 0, 0, 2, False), NO_CALL), (("read", 0, 1, 0, None), NO_CALL),
            (("write", 0, 1, 0, (), False), NO_CALL), (("sync", 0, 1, False), NO_CALL), (("look", 0, 0, 7), rule(6)),
            (("restart", ("create", 0, 1, 0)), NO_CALL), (("restart", ("create", 0, 1, 1)), None),
            (("restart", ("create", 0, 1, 2)), NO_CALL), (("restart", ("write", 0, 0, 0, ())), None),
            (("restart", ("write", 0, 1, 0, ())), NO_CALL), (("restart", ("sync", 0, 0)), None),
            (("restart", ("sync", 0, 1)), NO_CALL),
        ])

    def test_a_restart_with_a_cut_call_that_is_none_changes_nothing(self):
        events = [("start", 0, 1), ("lock", 1, 0), ("map", 0, 5, 50)] + FILE
        self.check(events, ("restart", ("create", 0, 1, 5)), NO_CALL)
        shield = shield_after(events)
        shield.take(("restart", ("remove", 7, 0)))
        self.assertIsNone(shield.take(("unlock", 1, 0)))
        self.assertIsNone(shield.take(("unmap", 0, 50)))

    def test_a_cut_call_is_looked_at_before_the_restart(self):
        # After the restart the thread 1 would not run any more.
        self.check([("start", 0, 1)], ("restart", ("sync_names", 1)), None)
        self.check([("start", 0, 1), ("restart", None)], ("restart", ("sync_names", 1)), NO_CALL)


class Rules(Checks):
    def test_rule_1(self):
        self.check([("lock", 0, 0)], ("lock", 0, 0), rule(1))

    def test_rule_2_comes_before_rule_3(self):
        events = waiting((0, 0)) + [("lock", 0, 0)]
        self.check(events, ("woken", 1), rule(2))
        self.check(events + [("signal", 0, 0)], ("woken", 1), rule(3))
        self.check(events[:-1], ("woken", 1), rule(2))

    def test_rules_4_and_5(self):
        self.check([("clock", 0, 1)], ("clock", 0, 0), rule(4))
        self.check([("map", 0, 1, 0)], ("map", 0, 1, 0), rule(5))

    def test_rules_6_to_9(self):
        self.check_all(FILE, [
            (("look", 0, 0, None), rule(6)), (("look", 0, 0, 1), rule(6)), (("look", 0, 1, 0), rule(6)),
            (("create", 0, 0, 1, True), rule(7)), (("create", 0, 1, 1, False), rule(7)),
            (("remove", 0, 0, False), rule(8)), (("remove", 0, 1, True), rule(8)),
            (("rename", 0, 0, 1, False), rule(9)), (("rename", 0, 1, 0, True), rule(9)),
        ])

    def test_rule_10_comes_before_rule_11(self):
        events = FILE + [("write", 0, 0, 0, (1,), True), ("remove", 0, 0, True)]
        self.check_all(events, [
            (("read", 0, 0, 0, (1,)), rule(10)), (("read", 0, 0, 0, (2,)), rule(10)), (("read", 0, 0, 0, None), None),
        ])
        self.check_all(FILE, [
            (("read", 0, 0, 0, None), rule(10)), (("read", 0, 0, 0, (2,)), rule(11)), (("read", 0, 0, 0, ()), None),
        ])

    def test_rules_12_and_13(self):
        self.check_all(FILE, [
            (("write", 0, 0, 0, (), False), rule(12)), (("sync", 0, 0, False), rule(13)),
        ])
        self.check_all(FILE + [("remove", 0, 0, True)], [
            (("write", 0, 0, 0, (), True), rule(12)), (("sync", 0, 0, True), rule(13)),
        ])

    def test_a_read_that_rule_11_refuses_leaves_the_names_as_they_are(self):
        events = [("create", 0, 0, 0, True), ("restart", None)]
        self.check(events, ("read", 0, 0, 0, (1,)), rule(11))
        shield = shield_after(events)
        shield.take(("read", 0, 0, 0, (1,)))
        self.assertIsNone(shield.take(("look", 0, 0, None)))


class TooMany(Checks):
    def test_too_many_changes_nothing(self):
        shield = shield_after(many_pairs(60))
        form = shield.form()
        for event in (("create", 0, 2, 30, True), ("rename", 0, 0, 1, True), ("restart", ("create", 0, 2, 30))):
            self.assertEqual(shield.take(event), TOO_MANY)
            self.assertEqual(shield.form(), form)
        self.assertIsNone(shield.take(("sync_names", 0)))
        self.assertIsNone(shield.take(("create", 0, 2, 30, True)))

    def test_a_restart_with_too_many_loses_nothing(self):
        events = [("start", 0, 1), ("lock", 1, 0), ("map", 0, 5, 50)] + many_pairs(60)
        shield = shield_after(events)
        self.assertEqual(shield.take(("restart", ("create", 1, 2, 30))), TOO_MANY)
        self.assertIsNone(shield.take(("unlock", 1, 0)))
        self.assertIsNone(shield.take(("unmap", 0, 50)))


class Taken(Checks):
    def test_the_example_of_the_interface(self):
        self.assertEqual(taken([("clock", 0, 5), ("clock", 0, 4)]), (1, ("refused", 4)))

    def test_the_first_event_that_is_not_taken(self):
        self.assertIsNone(taken([]))
        self.assertIsNone(taken([("clock", 0, 5)]))
        self.assertEqual(taken([("end", 0), ("end", 0)]), (0, ("no call",)))
        self.assertEqual(taken([("hear", 0, ()), ("clock", 0, 5), ("clock", 0, 4), ("end", 0)]), (2, ("refused", 4)))
        self.assertEqual(taken(many_pairs(60) + [("remove", 0, 1, True)]), (59, ("too many",)))

    def test_texts_that_no_rule_is_about(self):
        self.check_all([], [(("hear", 0, ()), None), (("hear", 0, (65535,) * 20), None)])
        self.assertEqual(shield_after([("hear", 0, (1,))]).form(), Shield().form())

    def test_shields_and_histories_are_apart(self):
        shield = Shield()
        shield.take(("clock", 0, 5))
        self.assertIsNone(Shield().take(("clock", 0, 4)))
        self.assertIsNone(taken([("clock", 0, 4)]))
        history = [("start", 0, 1), ("clock", 0, 5), ("restart", None)]
        kept = list(history)
        taken(history)
        self.assertEqual(history, kept)
