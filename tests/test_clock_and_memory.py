"""Times that are told (point 6), and memory (points 7 and 8)."""

from tests.helpers import NO_CALL, Checks, part, rule


class Times(Checks):
    def test_a_little_less_equal_greater(self):
        for start in ([("clock", 0, 5)], [("clock", 0, 3), ("clock", 0, 5)], [("clock", 0, 5), ("restart", None)]):
            self.check_all(start, [
                (("clock", 0, 4), rule(4)), (("clock", 0, 0), rule(4)), (("clock", 0, 5), None), (("clock", 0, 6), None),
                (("clock", 0, 65535), None),
            ])
        self.check([("clock", 0, 65535)], ("clock", 0, 65534), rule(4))

    def test_a_refused_time_does_not_count(self):
        self.check([("clock", 0, 5), ("clock", 0, 5)], ("clock", 0, 5), None)

    def test_the_form_has_the_last_time(self):
        self.assertEqual(part([], 5), 0)
        self.assertEqual(part([("clock", 0, 5), ("restart", None), ("clock", 0, 9)], 5), 9)
        self.assertEqual(part([("clock", 0, 9), ("restart", None)], 5), 9)

    def test_all_threads_have_one_clock(self):
        self.check([("start", 0, 1), ("clock", 1, 7)], ("clock", 0, 6), rule(4))


class Memory(Checks):
    def test_sizes(self):
        self.check_all([], [
            (("map", 0, 0, 5), NO_CALL), (("map", 0, 1, 5), None), (("map", 0, 1000, 5), None),
            (("map", 0, 1001, 5), NO_CALL), (("map", 0, 65535, 5), NO_CALL),
        ])

    def test_the_end_of_the_addresses(self):
        self.check_all([], [
            (("map", 0, 1, 65535), None), (("map", 0, 2, 65535), NO_CALL), (("map", 0, 2, 65534), None),
            (("map", 0, 1000, 64536), None), (("map", 0, 1000, 64537), NO_CALL), (("map", 0, 1000, 0), None),
        ])

    def test_no_call_comes_before_what_is_mapped(self):
        self.check_all([("map", 0, 1000, 64536)], [
            (("map", 0, 1001, 64000), NO_CALL), (("map", 0, 0, 64536), NO_CALL), (("map", 0, 2, 65535), NO_CALL),
            (("map", 0, 1, 65535), rule(5)),
        ])

    def test_beside_and_across(self):
        events = [("map", 0, 10, 100)]
        self.check_all(events, [
            (("map", 0, 1, 99), None), (("map", 0, 1, 100), rule(5)), (("map", 0, 1, 105), rule(5)),
            (("map", 0, 1, 109), rule(5)), (("map", 0, 1, 110), None), (("map", 0, 10, 90), None),
            (("map", 0, 11, 90), rule(5)), (("map", 0, 10, 110), None), (("map", 0, 10, 109), rule(5)),
            (("map", 0, 30, 90), rule(5)), (("map", 0, 10, 100), rule(5)), (("map", 0, 3, 103), rule(5)),
            (("map", 0, 1000, 0), rule(5)), (("map", 0, 100, 0), None),
        ])
        events += [("map", 0, 10, 120)]
        self.check(events, ("map", 0, 10, 110), None)
        self.check(events, ("map", 0, 11, 110), rule(5))
        self.check(events, ("map", 0, 11, 109), rule(5))

    def test_what_is_given_back_is_free(self):
        events = [("map", 0, 10, 100), ("map", 0, 10, 110), ("unmap", 0, 100)]
        self.assertEqual(part(events, 6), ((110, 10),))
        self.check_all(events, [
            (("map", 0, 10, 100), None), (("map", 0, 11, 100), rule(5)), (("unmap", 0, 100), NO_CALL),
            (("unmap", 0, 110), None),
        ])

    def test_unmap_where_no_memory_begins(self):
        self.check_all([("map", 0, 10, 100)], [
            (("unmap", 0, 99), NO_CALL), (("unmap", 0, 101), NO_CALL), (("unmap", 0, 109), NO_CALL),
            (("unmap", 0, 110), NO_CALL), (("unmap", 0, 100), None),
        ])

    def test_another_thread_may_give_back(self):
        self.check([("start", 0, 1), ("map", 0, 10, 100)], ("unmap", 1, 100), None)

    def test_nothing_is_mapped_after_a_restart(self):
        events = [("map", 0, 10, 100), ("restart", None)]
        self.assertEqual(part(events, 6), ())
        self.check(events, ("unmap", 0, 100), NO_CALL)
        self.check(events, ("map", 0, 10, 95), None)

    def test_maps_are_in_order(self):
        events = [("map", 0, 2, 900), ("map", 0, 3, 0), ("map", 0, 1, 500)]
        self.assertEqual(part(events, 6), ((0, 3), (500, 1), (900, 2)))
