"""The form of what a shield remembers, and copies of shields (points 22 to 24)."""

from honestrun.shields import Shield
from tests.helpers import Checks, shield_after, waiting

NO = (None, None, None, None)
ALL = waiting((0, 0), (0, 1)) + [
    ("signal", 0, 0), ("start", 0, 3), ("lock", 3, 2), ("clock", 0, 9), ("map", 0, 5, 50), ("create", 3, 1, 0, True),
    ("write", 3, 0, 1, (7,), True),
]
FUTURES = (
    [("end", 0)], [("start", 0, 4)], [("woken", 1)], [("woken", 2), ("woken", 1)], [("unlock", 3, 2)], [("clock", 0, 8)],
    [("clock", 0, 10)], [("map", 0, 1, 54)], [("unmap", 0, 50)], [("look", 0, 1, None)], [("look", 0, 1, 0)],
    [("create", 0, 0, 1, True)], [("remove", 0, 1, True)], [("rename", 0, 1, 2, True)], [("sync_names", 0)],
    [("read", 0, 0, 1, (7,))], [("write", 0, 0, 1, (8,), True)], [("write", 0, 0, 0, (8,), True)], [("sync", 0, 0, True)],
    [("signal_all", 0, 0)], [("lock", 3, 3), ("unlock", 3, 2), ("wait", 3, 1, 3)], [("restart", None)],
    [("restart", ("write", 3, 0, 0, (9,)))], [("restart", ("remove", 3, 1))],
)


class Forms(Checks):
    def test_at_the_beginning(self):
        form = ((0,), 1, (), (), ((), ()), 0, (), ((NO, NO),), (), 0)
        self.assertEqual(Shield().form(), form)

    def test_all_parts(self):
        file = (None, 0, None, None)
        self.assertEqual(shield_after(ALL).form(), (
            (0, 3), 4, ((2, 3),), (), (((((1, 0), (2, 1)), 1),), ()), 9, ((50, 5),), ((file, NO), (file, file)),
            ((0, 1, (7,), ((), (7,))),), 1,
        ))

    def test_after_a_restart(self):
        file = (None, 0, None, None)
        self.assertEqual(shield_after(ALL + [("restart", None)]).form(), (
            (0,), 4, (), (), ((), ()), 9, (), ((NO, NO), (file, file)), ((0, 1, None, ((), (7,))),), 1,
        ))

    def test_a_form_is_made_of_tuples(self):
        def check(value):
            if not isinstance(value, int) and value is not None:
                self.assertIs(tuple, value.__class__)
                for member in value:
                    check(member)
        check(shield_after(ALL).form())
        check(shield_after(ALL + [("signal_all", 0, 0)]).form())

    def test_a_form_is_not_changed_later(self):
        shield = shield_after(ALL)
        form = shield.form()
        kept = repr(form)
        for future in FUTURES:
            for event in future:
                shield.take(event)
        self.assertEqual(repr(form), kept)


class Copies(Checks):
    def test_a_copy_remembers_the_same(self):
        shield = shield_after(ALL)
        for future in FUTURES:
            other = shield_after(ALL)
            twin = shield.copy()
            self.assertEqual(twin.form(), shield.form())
            for event in future:
                self.assertEqual(twin.take(event), other.take(event))
            self.assertEqual(twin.form(), other.form())

    def test_neither_changes_with_the_other(self):
        form = shield_after(ALL).form()
        for future in FUTURES:
            with self.subTest(future=future):
                shield = shield_after(ALL)
                twin = shield.copy()
                again = twin.copy()
                for event in future:
                    twin.take(event)
                self.assertEqual(shield.form(), form)
                self.assertEqual(again.form(), form)
                shield = shield_after(ALL)
                twin = shield.copy()
                for event in future:
                    shield.take(event)
                self.assertEqual(twin.form(), form)

    def test_a_copy_is_a_shield(self):
        shield = Shield()
        self.assertIsInstance(shield.copy(), Shield)
        self.assertIsNot(shield.copy(), shield)
