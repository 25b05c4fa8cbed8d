"""Pages that are written, read and made safe (points 14 to 16 and 24)."""

from tests.helpers import NO_CALL, Checks, names, pages, rule

FILE = [("create", 0, 0, 0, True), ("sync_names", 0)]
# The file 0 has no name, the file 1 has.
NONE_HAS = FILE + [("remove", 0, 0, True), ("create", 0, 1, 1, True), ("sync_names", 0)]
# The file 0 has no name now, but it may have one after a restart.
LATER = FILE + [("remove", 0, 0, True)]


def read(text, stamp=0, page=0):
    return ("read", 0, stamp, page, text)


def write(text, stamp=0, page=0, done=True):
    return ("write", 0, stamp, page, text, done)


RESTART = ("restart", None)


class Pages(Checks):
    def test_pages_are_empty_at_the_beginning(self):
        for page in (0, 1):
            self.check_all(FILE, [
                (read((), page=page), None), (read((1,), page=page), rule(11)), (read(None, page=page), rule(10)),
            ])
        self.assertEqual(pages(FILE), ())
        self.check_all(FILE + [RESTART], [(read(()), None), (read((1,)), rule(11))])

    def test_a_write_is_read(self):
        events = FILE + [write((1,))]
        self.check_all(events, [
            (read((1,)), None), (read(()), rule(11)), (read((1, 0)), rule(11)), (read((), page=1), None),
            (read((1,), page=1), rule(11)),
        ])
        self.check_all(events + [write((2,))], [(read((2,)), None), (read((1,)), rule(11)), (read(()), rule(11))])

    def test_each_file_has_its_own_pages(self):
        events = FILE + [("create", 0, 1, 1, True), write((1,))]
        self.check_all(events, [(read((), stamp=1), None), (read((1,), stamp=1), rule(11))])
        self.assertEqual(pages(events), ((0, 0, (1,), ((), (1,))),))

    def test_a_file_is_the_same_under_another_name(self):
        self.check(FILE + [write((1,)), ("rename", 0, 0, 3, True)], read((1,)), None)

    def test_a_file_in_the_place_of_another_is_empty(self):
        events = FILE + [write((1,)), ("remove", 0, 0, True), ("create", 0, 0, 1, True)]
        self.check_all(events, [(read((), stamp=1), None), (read(None), None), (read((1,)), rule(10))])

    def test_what_may_survive(self):
        events = FILE + [write((1,)), write((2,)), RESTART]
        self.assertEqual(pages(events), ((0, 0, None, ((), (1,), (2,))),))
        self.check_all(events, [
            (read(()), None), (read((1,)), None), (read((2,)), None), (read((3,)), rule(11)), (read(None), rule(10)),
        ])

    def test_what_was_read_after_a_restart_is_known(self):
        events = FILE + [write((1,)), RESTART, read((1,))]
        self.assertEqual(pages(events), ((0, 0, (1,), ((1,),)),))
        for more in ([], [RESTART], [RESTART, RESTART]):
            self.check_all(events + more, [(read((1,)), None), (read(()), rule(11))])
        self.assertEqual(pages(FILE + [write((1,)), RESTART, read(())]), ())

    def test_a_read_of_a_known_text_tells_nothing_of_what_survives(self):
        events = FILE + [write((1,)), read((1,))]
        self.assertEqual(pages(events), ((0, 0, (1,), ((), (1,))),))
        self.check(events + [RESTART], read(()), None)

    def test_a_text_that_alone_may_survive_is_known_after_a_restart(self):
        events = FILE + [write((1,)), ("sync", 0, 0, True), RESTART]
        self.assertEqual(pages(events), ((0, 0, (1,), ((1,),)),))
        # Not known would be: what survives, so that the write below would not be the only text that may survive.
        events += [write((2,)), ("sync", 0, 0, True)]
        self.assertEqual(pages(events), ((0, 0, (2,), ((2,),)),))

    def test_sync(self):
        events = FILE + [write((1,)), write((2,), page=1), ("sync", 0, 0, True)]
        self.assertEqual(pages(events), ((0, 0, (1,), ((1,),)), (0, 1, (2,), ((2,),))))
        self.check_all(events + [RESTART], [
            (read((1,)), None), (read(()), rule(11)), (read((2,), page=1), None), (read((), page=1), rule(11)),
        ])

    def test_sync_is_of_one_file(self):
        events = FILE + [("create", 0, 1, 1, True), write((1,)), write((2,), stamp=1), ("sync", 0, 1, True)]
        self.assertEqual(pages(events), ((0, 0, (1,), ((), (1,))), (1, 0, (2,), ((2,),))))

    def test_sync_of_a_text_that_is_not_known(self):
        events = FILE + [write((1,)), RESTART, ("sync", 0, 0, True)]
        self.assertEqual(pages(events), ((0, 0, None, ((), (1,))),))
        self.check_all(events, [(read(()), None), (read((1,)), None)])

    def test_a_write_over_a_text_that_is_not_known(self):
        events = FILE + [write((1,)), RESTART, write((2,))]
        self.assertEqual(pages(events), ((0, 0, (2,), ((), (1,), (2,))),))
        self.check_all(events, [(read((2,)), None), (read((1,)), rule(11))])

    def test_a_write_of_the_same_text(self):
        self.assertEqual(pages(FILE + [write(())]), ())
        events = FILE + [write((1,)), ("sync", 0, 0, True)]
        self.assertEqual(pages(events + [write((1,))]), pages(events))

    def test_sync_names_does_not_make_pages_safe(self):
        events = FILE + [write((1,)), ("sync_names", 0)]
        self.assertEqual(pages(events), ((0, 0, (1,), ((), (1,))),))

    def test_pages_survive_apart_from_each_other(self):
        events = FILE + [write((1,)), write((2,), page=1), RESTART]
        for text in ((), (1,)):
            for other in ((), (2,)):
                self.check(events + [read(text)], read(other, page=1), None)


class WithoutName(Checks):
    def test_answers(self):
        self.check_all(NONE_HAS, [
            (read(None), None), (read(()), rule(10)), (read(None, page=1), None), (write((1,)), rule(12)),
            (write((1,), done=False), None), (("sync", 0, 0, True), rule(13)), (("sync", 0, 0, False), None),
        ])
        self.check_all(FILE, [
            (write((1,)), None), (write((1,), done=False), rule(12)), (("sync", 0, 0, True), None),
            (("sync", 0, 0, False), rule(13)),
        ])

    def test_of_several_names_one_is_enough(self):
        for name in range(4):
            self.check([("create", 0, name, 0, True)], write((1,)), None)

    def test_what_was_not_done_changes_nothing(self):
        events = LATER + [write((1,), done=False)]
        self.assertEqual(pages(events), ())
        events = FILE + [write((1,)), ("remove", 0, 0, True)]
        self.assertEqual(pages(events), ((0, 0, None, ((), (1,))),))
        self.assertEqual(pages(events + [("sync", 0, 0, False), write((3,), done=False), read(None)]), pages(events))

    def test_files_without_any_name_have_no_entries(self):
        events = FILE + [write((1,)), ("remove", 0, 0, True)]
        self.assertEqual(pages(events), ((0, 0, None, ((), (1,))),))
        self.assertEqual(pages(events + [("sync_names", 0)]), ())
        self.assertEqual(pages(events + [RESTART]), ((0, 0, None, ((), (1,))),))
        self.assertEqual(pages(events + [RESTART, ("look", 0, 0, None)]), ())

    def test_the_text_now_of_files_with_surviving_names_alone_is_not_told(self):
        events = FILE + [write((1,)), ("sync", 0, 0, True), ("remove", 0, 0, True)]
        self.assertEqual(pages(events), ((0, 0, None, ((1,),)),))
        self.assertEqual(pages(events + [RESTART]), ((0, 0, (1,), ((1,),)),))
        other = FILE + [write((1,)), write(()), ("remove", 0, 0, True)]
        self.assertEqual(pages(other), ((0, 0, None, ((), (1,))),))

    def test_a_page_that_holds_the_empty_text_again(self):
        self.assertEqual(pages(FILE + [write((1,)), write(())]), ((0, 0, (), ((), (1,))),))
        self.assertEqual(pages(FILE + [write((1,)), write(()), ("sync", 0, 0, True)]), ())

    def test_stamps_that_were_not_given(self):
        self.check_all(FILE, [
            (read(None, stamp=1), NO_CALL), (read((), stamp=1), NO_CALL), (write((), stamp=1, done=False), NO_CALL),
            (("sync", 0, 1, False), NO_CALL), (read((), page=2), NO_CALL), (read(None, page=2), NO_CALL),
            (write((), page=2), NO_CALL),
        ])
        given = FILE + [("create", 0, 0, 1, False), ("restart", ("create", 0, 0, 2))]
        for stamp in (1, 2):
            self.check_all(given, [
                (read(None, stamp=stamp), None), (read((), stamp=stamp), rule(10)),
                (write((), stamp=stamp, done=False), None), (("sync", 0, stamp, False), None),
                (("sync", 0, stamp, True), rule(13)),
            ])

    def test_an_answer_that_leaves_some_names(self):
        events = [("create", 0, 0, 0, True), RESTART]
        self.assertEqual(len(names(events)), 2)
        self.check_all(events, [
            (read(()), None), (read(None), None), (read((1,)), rule(11)), (write((1,)), None),
            (write((1,), done=False), None), (("sync", 0, 0, True), None), (("sync", 0, 0, False), None),
        ])


class CutWrites(Checks):
    def test_a_cut_write_has_happened_or_not(self):
        events = FILE + [("restart", ("write", 0, 0, 1, (1,)))]
        self.assertEqual(pages(events), ((0, 1, None, ((), (1,))),))
        self.check_all(events, [
            (read((), page=1), None), (read((1,), page=1), None), (read((2,), page=1), rule(11)),
            (read((1,), page=0), rule(11)),
        ])

    def test_a_cut_write_of_what_is_there(self):
        self.assertEqual(pages(FILE + [("restart", ("write", 0, 0, 1, ()))]), ())
        events = FILE + [write((1,)), ("sync", 0, 0, True)]
        self.assertEqual(pages(events + [("restart", ("write", 0, 0, 0, (1,)))]), pages(events))

    def test_a_cut_write_adds_to_what_may_survive(self):
        events = FILE + [write((1,)), ("restart", ("write", 0, 0, 0, (2,)))]
        self.assertEqual(pages(events), ((0, 0, None, ((), (1,), (2,))),))

    def test_a_cut_write_to_a_file_that_no_name_has_now(self):
        events = LATER + [("restart", ("write", 0, 0, 0, (1,)))]
        self.assertEqual(pages(events), ((0, 0, None, ((), (1,))),))
        self.check(events, read((1,)), None)
        self.assertEqual(pages(NONE_HAS + [("restart", ("write", 0, 0, 0, (1,)))]), ())

    def test_a_cut_sync_is_like_a_plain_restart(self):
        for events in (FILE, FILE + [write((1,))], FILE + [write((1,)), RESTART], LATER):
            self.assertEqual(pages(events + [("restart", ("sync", 0, 0))]), pages(events + [RESTART]))

    def test_cut_changes_of_names_leave_pages(self):
        events = FILE + [write((1,)), ("restart", ("remove", 0, 0))]
        self.assertEqual(pages(events), ((0, 0, None, ((), (1,))),))


class Entries(Checks):
    def test_order(self):
        events = [("create", 0, 1, 0, True), ("create", 0, 0, 1, True), write((2, 1), stamp=1, page=1),
                  write((5,), stamp=1), write((10,), stamp=0, page=1), write((2,), stamp=1, page=1)]
        self.assertEqual(pages(events), (
            (0, 1, (10,), ((), (10,))), (1, 0, (5,), ((), (5,))), (1, 1, (2,), ((), (2,), (2, 1))),
        ))

    def test_texts_are_compared_as_tuples(self):
        events = FILE + [write(text) for text in ((3,), (2, 9), (2,), (10,))]
        self.assertEqual(pages(events), ((0, 0, (10,), ((), (2,), (2, 9), (3,), (10,))),))
