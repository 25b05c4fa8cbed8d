"""Names that are changed, looked at and made safe, and what survives of them (points 9 to 13)."""

from tests.helpers import NO_CALL, TOO_MANY, Checks, many_pairs, names, part, rule, shield_after

NO = (None, None, None, None)
FILE = [("create", 0, 0, 0, True)]
SAFE = FILE + [("sync_names", 0)]
LOOKS = tuple(("look", 0, name, None) for name in range(4))


def at(a=None, b=None, c=None, d=None):
    return (a, b, c, d)


class Changes(Checks):
    def test_no_name_has_a_file_at_the_beginning(self):
        self.assertEqual(names([]), ((NO, NO),))
        self.check_all([], [(look, None) for look in LOOKS] + [(("look", 0, 0, 0), rule(6))])

    def test_create(self):
        self.check_all([], [
            (("create", 0, 3, 0, True), None), (("create", 0, 3, 0, False), rule(7)), (("create", 0, 3, 1, True), NO_CALL),
        ])
        self.check_all(FILE, [
            (("look", 0, 0, 0), None), (("look", 0, 0, None), rule(6)), (("look", 0, 0, 1), rule(6)),
            (("look", 0, 1, None), None), (("look", 0, 1, 0), rule(6)),
            (("create", 0, 0, 1, False), None), (("create", 0, 0, 1, True), rule(7)), (("create", 0, 1, 1, True), None),
            (("create", 0, 1, 1, False), rule(7)), (("create", 0, 1, 0, True), NO_CALL),
            (("create", 0, 1, 2, True), NO_CALL),
        ])

    def test_a_create_that_was_not_done_takes_a_stamp_and_changes_nothing(self):
        events = FILE + [("create", 0, 0, 1, False)]
        self.assertEqual(names(events), names(FILE))
        self.assertEqual(part(events, 9), 2)
        self.check_all(events, [(("create", 0, 1, 1, True), NO_CALL), (("create", 0, 1, 2, True), None)])

    def test_remove(self):
        self.check_all(FILE, [
            (("remove", 0, 0, True), None), (("remove", 0, 0, False), rule(8)), (("remove", 0, 1, False), None),
            (("remove", 0, 1, True), rule(8)),
        ])
        self.check(FILE + [("remove", 0, 0, True)], ("look", 0, 0, None), None)
        self.assertEqual(names(FILE + [("remove", 0, 1, False)]), names(FILE))

    def test_rename(self):
        self.check_all(FILE, [
            (("rename", 0, 0, 1, True), None), (("rename", 0, 0, 1, False), rule(9)), (("rename", 0, 1, 0, True), rule(9)),
            (("rename", 0, 1, 0, False), None), (("rename", 0, 1, 2, False), None),
        ])
        events = SAFE + [("rename", 0, 0, 2, True)]
        self.assertEqual(names(events), ((at(c=0), at(c=0)), (at(c=0), at(a=0))))
        self.assertEqual(names(SAFE + [("rename", 0, 1, 0, False)]), names(SAFE))

    def test_rename_to_a_name_that_has_a_file(self):
        events = FILE + [("create", 0, 1, 1, True), ("sync_names", 0), ("rename", 0, 0, 1, True)]
        self.assertEqual(names(events), ((at(b=0), at(b=0)), (at(b=0), at(a=0, b=1))))
        self.check_all(events, [(("look", 0, 0, None), None), (("look", 0, 1, 0), None), (("look", 0, 1, 1), rule(6))])

    def test_rename_to_itself_is_a_change(self):
        self.check_all(FILE, [(("rename", 0, 0, 0, True), None), (("rename", 0, 0, 0, False), rule(9))])
        self.check_all(FILE, [(("rename", 0, 1, 1, False), None), (("rename", 0, 1, 1, True), rule(9))])
        events = [("create", 0, 0, 0, True), ("remove", 0, 0, True), ("create", 0, 0, 1, True)]
        self.assertEqual(names(events + [("rename", 0, 0, 0, True)]), names(events))
        both = FILE + [("restart", None)]
        self.assertEqual(names(both + [("rename", 0, 0, 0, True)]), ((at(a=0), at(a=0)),))
        self.assertEqual(names(both + [("rename", 0, 0, 0, False)]), ((NO, NO),))

    def test_what_survives(self):
        self.assertEqual(names(FILE), ((at(a=0), NO), (at(a=0), at(a=0))))
        self.assertEqual(names(SAFE), ((at(a=0), at(a=0)),))
        events = SAFE + [("remove", 0, 0, True), ("create", 0, 1, 1, True)]
        self.assertEqual(names(events), ((at(b=1), NO), (at(b=1), at(b=1)), (at(b=1), at(a=0))))

    def test_an_answer_leaves_the_pairs_that_agree(self):
        events = FILE + [("restart", None)]
        self.assertEqual(names(events), ((NO, NO), (at(a=0), at(a=0))))
        for event in (("look", 0, 0, 0), ("create", 0, 0, 1, False), ("read", 0, 0, 1, ()), ("sync", 0, 0, True),
                      ("write", 0, 0, 1, (), True)):
            self.assertEqual(names(events + [event]), ((at(a=0), at(a=0)),), event)
        for event in (("look", 0, 0, None), ("rename", 0, 0, 1, False), ("remove", 0, 0, False), ("read", 0, 0, 1, None),
                      ("sync", 0, 0, False), ("write", 0, 0, 1, (), False)):
            self.assertEqual(names(events + [event]), ((NO, NO),), event)
        for event in (("look", 0, 1, None), ("remove", 0, 1, False), ("hear", 0, ()), ("sync_names", 0)):
            self.assertEqual(names(events + [event]), names(events), event)

    def test_a_change_of_what_is_possible_in_some_pairs(self):
        events = FILE + [("restart", None), ("remove", 0, 0, True)]
        self.assertEqual(names(events), ((NO, NO), (NO, at(a=0))))
        events = FILE + [("restart", None), ("create", 0, 0, 1, True)]
        self.assertEqual(names(events), ((at(a=1), NO), (at(a=1), at(a=1))))

    def test_sync_names_keeps_what_is_possible_now(self):
        events = FILE + [("restart", None), ("create", 0, 1, 1, True)]
        self.assertEqual(names(events), (
            (at(b=1), NO), (at(b=1), at(b=1)), (at(a=0, b=1), at(a=0)), (at(a=0, b=1), at(a=0, b=1)),
        ))
        self.assertEqual(names(events + [("sync_names", 0)]), (
            (at(b=1), at(b=1)), (at(a=0, b=1), at(a=0, b=1)),
        ))

    def test_none_comes_before_all_stamps(self):
        events = [("create", 0, 3, 0, True), ("restart", None), ("create", 0, 0, 1, True), ("restart", None)]
        self.assertEqual([now for now, _ in names(events)], [NO, at(d=0), at(a=1), at(a=1, d=0)])


class Survivors(Checks):
    def test_a_restart_without_a_cut_call(self):
        self.check_all(FILE + [("restart", None)], [(("look", 0, 0, 0), None), (("look", 0, 0, None), None)])
        self.check_all(SAFE + [("restart", None)], [(("look", 0, 0, 0), None), (("look", 0, 0, None), rule(6))])

    def test_what_was_seen_after_a_restart_stays(self):
        for stamp, other in ((0, None), (None, 0)):
            events = FILE + [("restart", None), ("look", 0, 0, stamp), ("restart", None)]
            self.check(events, ("look", 0, 0, stamp), None)
            self.check(events, ("look", 0, 0, other), rule(6))

    def test_names_survive_as_a_whole(self):
        events = FILE + [("create", 0, 1, 1, True), ("restart", None), ("look", 0, 1, 1)]
        self.check(events, ("look", 0, 0, 0), None)
        self.check(events, ("look", 0, 0, None), rule(6))

    def test_a_cut_create(self):
        events = [("restart", ("create", 0, 2, 0))]
        self.assertEqual(names(events), ((NO, NO), (at(c=0), at(c=0))))
        self.assertEqual(part(events, 9), 1)
        self.check_all(events, [(("look", 0, 2, 0), None), (("look", 0, 2, None), None), (("create", 0, 1, 1, True), None)])
        self.assertEqual(names(SAFE + [("restart", ("create", 0, 0, 1))]), ((at(a=0), at(a=0)),))
        self.assertEqual(part(SAFE + [("restart", ("create", 0, 0, 1))], 9), 2)

    def test_a_cut_remove(self):
        self.assertEqual(names(SAFE + [("restart", ("remove", 0, 0))]), ((NO, NO), (at(a=0), at(a=0))))
        self.assertEqual(names(SAFE + [("restart", ("remove", 0, 1))]), ((at(a=0), at(a=0)),))

    def test_a_cut_rename(self):
        self.assertEqual(names(SAFE + [("restart", ("rename", 0, 0, 1))]), ((at(b=0), at(b=0)), (at(a=0), at(a=0))))
        self.assertEqual(names(SAFE + [("restart", ("rename", 0, 0, 0))]), ((at(a=0), at(a=0)),))
        self.assertEqual(names(SAFE + [("restart", ("rename", 0, 1, 0))]), ((at(a=0), at(a=0)),))
        events = FILE + [("restart", ("rename", 0, 0, 0))]
        self.assertEqual(names(events), ((NO, NO), (at(a=0), at(a=0))))

    def test_a_cut_change_of_names_that_are_not_known(self):
        events = FILE + [("restart", None), ("restart", ("create", 0, 0, 1))]
        self.assertEqual([now for now, _ in names(events)], [NO, at(a=0), at(a=1)])

    def test_a_cut_sync_names_is_like_a_plain_restart(self):
        for events in ([], FILE, SAFE, FILE + [("create", 0, 1, 1, True)], FILE + [("restart", None)]):
            self.assertEqual(names(events + [("restart", ("sync_names", 0))]), names(events + [("restart", None)]))

    def test_other_cut_calls_do_not_touch_names(self):
        for cut in (("write", 0, 0, 0, (1,)), ("sync", 0, 0)):
            self.assertEqual(names(FILE + [("restart", cut)]), names(FILE + [("restart", None)]))


class TooMany(Checks):
    def test_60_pairs_and_one_more_by_a_change(self):
        self.assertEqual(len(names(many_pairs(59))), 59)
        self.check_all(many_pairs(59), [
            (("create", 0, 0, 29, True), None), (("create", 0, 2, 29, True), None), (("rename", 0, 1, 3, True), None),
        ])
        self.assertEqual(len(names(many_pairs(60))), 60)
        self.check_all(many_pairs(60), [
            (("rename", 0, 0, 1, True), TOO_MANY), (("rename", 0, 0, 3, True), TOO_MANY),
            (("remove", 0, 1, True), TOO_MANY), (("create", 0, 2, 30, True), TOO_MANY),
            # The names after these are among those that could survive before.
            (("rename", 0, 0, 0, True), None), (("remove", 0, 0, True), None),
            (("create", 0, 0, 30, False), None), (("remove", 0, 2, False), None), (("sync_names", 0), None),
            (("look", 0, 2, None), None), (("restart", None), None), (("hear", 0, ()), None),
        ])

    def test_60_pairs_and_one_more_by_a_cut_change(self):
        self.assertEqual(len(names(many_pairs(59) + [("restart", ("create", 0, 3, 29))])), 60)
        self.check(many_pairs(59), ("restart", ("rename", 0, 1, 2)), None)
        self.check_all(many_pairs(60), [
            (("restart", ("create", 0, 2, 30)), TOO_MANY), (("restart", ("remove", 0, 1)), TOO_MANY),
            (("restart", ("rename", 0, 0, 1)), TOO_MANY),
            # These come to no names that could not survive before.
            (("restart", ("create", 0, 0, 30)), None), (("restart", ("remove", 0, 2)), None),
            (("restart", ("rename", 0, 0, 0)), None), (("restart", ("sync_names", 0)), None),
            (("restart", ("write", 0, 0, 0, (1,))), None), (("restart", ("sync", 0, 0)), None),
        ])

    def test_pairs_are_counted_after_the_restart(self):
        # Of 60 pairs here only half survive, so that a cut change may come.
        events = many_pairs(30) + [("restart", None), ("create", 0, 3, 15, True)]
        self.assertEqual(len(names(events)), 60)
        self.assertEqual(len(names(events + [("restart", None)])), 60)
        events = many_pairs(29) + [("restart", None), ("create", 0, 3, 14, True), ("sync_names", 0)]
        self.assertEqual(len(names(events)), 29)
        self.assertEqual(len(names(events + [("restart", ("remove", 0, 3))])), 58)

    def test_a_cut_change_of_many_names_now(self):
        events = many_pairs(31) + [("restart", None)]
        self.assertEqual(len(names(events)), 31)
        self.check(events, ("restart", ("create", 0, 3, 15)), TOO_MANY)
        self.check(events, ("restart", ("create", 0, 0, 15)), None)
        events = many_pairs(30) + [("restart", None)]
        self.check(events, ("restart", ("create", 0, 3, 15)), None)
        self.assertEqual(len(names(events + [("restart", ("create", 0, 3, 15))])), 60)

    def test_more_than_one_too_many(self):
        events = many_pairs(31) + [("restart", None)]
        self.check(events, ("create", 0, 3, 15, True), TOO_MANY)

    def test_other_answers_come_before_too_many(self):
        self.check_all(many_pairs(60), [
            (("rename", 0, 0, 1, False), rule(9)), (("create", 0, 2, 30, False), rule(7)), (("remove", 0, 0, False), rule(8)),
            (("rename", 0, 2, 1, True), rule(9)), (("rename", 0, 0, 4, True), NO_CALL), (("create", 0, 2, 31, True), NO_CALL),
            (("remove", 1, 0, True), NO_CALL), (("restart", ("create", 0, 2, 31)), NO_CALL),
            (("restart", ("remove", 1, 1)), NO_CALL), (("restart", ("rename", 0, 0, 4)), NO_CALL),
        ])

    def test_fewer_pairs_are_taken_again(self):
        events = many_pairs(60) + [("sync_names", 0)]
        self.check(events, ("rename", 0, 0, 1, True), None)
