"""Points 33 to 35: shields that are saved and opened again."""

import unittest

from honestrun.differences import difference
from honestrun.errors import HonestrunError, NotSaved
from honestrun.saved import mark, open_saved, save
from honestrun.shields import Shield
from tests.helpers import NO_CALL, TOO_MANY, many_pairs, rule, shield_after, waiting

EXAMPLE = ([7, 1, 0, 0, 1, 0, 0, 0, 0, 0, 0, 1, 0, 0, 0, 0, 0, 0, 0, 0, 0], (7, (21, 10, 26)))
NOTHING = [0] * 8
FILES = [
    ("create", 0, 0, 0, True), ("create", 0, 3, 1, True), ("sync_names", 0), ("write", 0, 0, 0, (8, 9), True),
    ("write", 0, 1, 1, (), True), ("write", 0, 1, 1, (5,), True), ("restart", None), ("write", 0, 0, 1, (4,), True),
    ("sync", 0, 0, True),
]
LINES = waiting((0, 0), (0, 1), (1, 0), (0, 2), (0, 0), (1, 1), (1, 1))
SIGNALS = [("signal", 0, 0), ("signal", 0, 0), ("signal_all", 0, 1)]
RICH = LINES + SIGNALS + [
    ("start", 0, 8), ("lock", 8, 3), ("start", 0, 9), ("wait", 8, 1, 3), ("lock", 0, 2), ("lock", 9, 0), ("clock", 9, 500),
    ("map", 0, 1000, 3000), ("map", 9, 5, 70), ("create", 0, 1, 0, True), ("rename", 9, 1, 2, True),
]


def decoded(items):
    """The number and the form in a saved list, read as point 33 says."""
    rest = list(items)

    def one():
        return rest.pop(0)

    def many(member):
        return tuple(member() for _ in range(one()))

    def pair():
        return one(), one()

    def text():
        return many(one)

    def block():
        count = one()
        return many(pair), count

    def stamps():
        found = [one() for _ in range(4)]
        return tuple(stamp - 1 if stamp else None for stamp in found)

    def names_pair():
        return stamps(), stamps()

    def entry():
        stamp, page = pair()
        known = one()
        assert known in (0, 1)
        now = text() if known else None
        return stamp, page, now, many(text)

    number, next_thread, clock, next_stamp = one(), one(), one(), one()
    running, holders, woken, maps = many(one), many(pair), many(pair), many(pair)
    waits = many(block), many(block)
    names, pages = many(names_pair), many(entry)
    assert rest == []
    return number, (running, next_thread, holders, woken, waits, clock, maps, names, pages, next_stamp)


class Marks(unittest.TestCase):
    def check(self, items, expected):
        kept = list(items)
        self.assertEqual(mark(items), expected)
        self.assertIsInstance(mark(items), tuple)
        self.assertEqual(items, kept)

    def test_marks(self):
        self.check([], (0, 0, 0))
        self.check([0], (1, 0, 0))
        self.check([5], (1, 5, 5))
        self.check([1, 2, 3], (3, 6, 14))
        self.check([3, 2, 1], (3, 6, 10))
        self.check([0, 0, 7], (3, 7, 21))
        self.check(EXAMPLE[0], (21, 10, 26))

    def test_sums_modulo(self):
        self.check([1000000, 3], (2, 0, 3))
        self.check([1000000, 2], (2, 1000002, 1))
        self.check([1000000, 4], (2, 1, 5))
        self.check([0, 0, 1000000], (3, 1000000, 1000003 - 9))
        self.check([1000000] * 5, (5, 999988, 1000003 - 45))
        # The length is no sum.
        self.check([0] * 1000010, (1000010, 0, 0))


class Lists(unittest.TestCase):
    def check(self, history, number, expected):
        shield = shield_after(history)
        form = shield.form()
        items, receipt = save(shield, number)
        self.assertEqual(items, expected)
        self.assertEqual(receipt, (number, mark(expected)))
        self.assertIsInstance(items, list)
        self.assertIsInstance(receipt, tuple)
        self.assertEqual(decoded(items), (number, form))
        self.assertEqual(shield.form(), form)
        again, _ = save(shield, number)
        self.assertIsNot(again, items)

    def test_the_example_of_the_interface(self):
        self.assertEqual(save(Shield(), 7), EXAMPLE)
        self.check([], 0, [0] + EXAMPLE[0][1:])
        self.check([], 1000000, [1000000] + EXAMPLE[0][1:])

    def test_threads_locks_clock_and_memory(self):
        history = [("start", 0, 1), ("start", 1, 2), ("start", 0, 3), ("end", 2), ("lock", 3, 2), ("lock", 0, 3),
                   ("lock", 3, 0), ("clock", 1, 600), ("map", 0, 9, 65527), ("map", 0, 1000, 0)]
        self.check(history, 5, [5, 4, 600, 0] + [3, 0, 1, 3] + [3, 0, 3, 2, 3, 3, 0] + [0] + [2, 0, 1000, 65527, 9]
                   + [0, 0] + [1] + NOTHING + [0])

    def test_waiting_threads(self):
        self.check(LINES, 1, [1, 8, 0, 0] + [1, 0] + [0, 0, 0] + [1, 0, 4, 1, 0, 2, 1, 4, 2, 5, 0] + [1, 0, 3, 3, 0, 6, 1, 7, 1]
                   + [1] + NOTHING + [0])
        self.check(LINES + SIGNALS, 1, [1, 8, 0, 0] + [1, 0] + [0] + [3, 3, 0, 6, 1, 7, 1] + [0]
                   + [1, 2, 4, 1, 0, 2, 1, 4, 2, 5, 0] + [0] + [1] + NOTHING + [0])
        # Two blocks: the last thread came after the signals.
        more = [("start", 0, 8), ("lock", 8, 3), ("wait", 8, 0, 3), ("start", 0, 9), ("lock", 9, 3), ("wait", 9, 1, 3)]
        self.check(LINES + SIGNALS + more, 1, [1, 10, 0, 0] + [1, 0] + [0] + [3, 3, 0, 6, 1, 7, 1] + [0]
                   + [2, 2, 4, 1, 0, 2, 1, 4, 2, 5, 0, 0, 1, 8, 3] + [1, 0, 1, 9, 3] + [1] + NOTHING + [0])

    def test_names(self):
        self.check([("create", 0, 2, 0, True)], 3,
                   [3, 1, 0, 1, 1, 0, 0, 0, 0, 0, 0] + [2] + [0, 0, 1, 0] + [0] * 4 + [0, 0, 1, 0] * 2 + [0])
        history = [("create", 0, 2, 0, True), ("create", 0, 0, 1, True), ("sync_names", 0)]
        self.check(history, 3, [3, 1, 0, 2, 1, 0, 0, 0, 0, 0, 0] + [1] + [2, 0, 1, 0] * 2 + [0])

    def test_pages(self):
        items = [2, 1, 0, 2, 1, 0, 0, 0, 0, 0, 0] + [1] + [1, 0, 0, 2] * 2
        self.check(FILES, 2, items + [3] + [0, 0, 0, 2, 0, 2, 8, 9] + [0, 1, 1, 1, 4, 1, 1, 4] + [1, 1, 0, 2, 0, 1, 5])
        known = FILES + [("read", 0, 0, 0, ()), ("write", 0, 0, 0, (7,), True), ("write", 0, 0, 0, (), True)]
        self.check(known, 2, items + [3] + [0, 0, 1, 0, 2, 0, 1, 7] + [0, 1, 1, 1, 4, 1, 1, 4] + [1, 1, 0, 2, 0, 1, 5])
        # A file that only a surviving name has.
        gone = FILES + [("read", 0, 1, 1, (5,)), ("write", 0, 1, 1, (6,), True), ("remove", 0, 3, True)]
        self.check(gone, 2, items[:11] + [2] + [1, 0, 0, 0, 1, 0, 0, 0, 1, 0, 0, 0, 1, 0, 0, 2]
                   + [3] + [0, 0, 0, 2, 0, 2, 8, 9] + [0, 1, 1, 1, 4, 1, 1, 4] + [1, 1, 0, 2, 1, 5, 1, 6])

    def test_stamps_and_numbers_at_the_end(self):
        shield = shield_after([("clock", 0, 65535), ("map", 0, 1, 65535), ("create", 0, 0, 0, True),
                               ("write", 0, 0, 1, (65535,) * 20, True)])
        items, _ = save(shield, 1)
        self.assertEqual(decoded(items)[1], shield.form())

    def test_the_number(self):
        shield = shield_after(RICH)
        items, (number, _) = save(shield, 12)
        others, (other, _) = save(shield, 13)
        self.assertEqual((items[0], others[0], number, other), (12, 13, 12, 13))
        self.assertEqual(items[1:], others[1:])


class Opened(unittest.TestCase):
    def opened(self, history, number=4):
        shield = shield_after(history)
        form = shield.form()
        items, receipt = save(shield, number)
        kept = list(items)
        twin = open_saved(items, receipt)
        self.assertIsInstance(twin, Shield)
        self.assertEqual(items, kept)
        self.assertEqual(twin.form(), form)
        self.assertEqual(shield.form(), form)
        self.assertEqual(save(twin, number), (items, receipt))
        return shield, twin

    def check(self, history, future):
        """The same answers and the same forms ever after."""
        shield, twin = self.opened(history)
        other = shield.copy()
        for event in future:
            answer = shield.take(event)
            self.assertEqual(twin.take(event), answer, (history, event))
            self.assertEqual(twin.form(), shield.form(), (history, event))
            self.assertEqual(save(twin, 9), save(shield, 9))
        self.assertEqual(self.opened(history)[1].form(), other.form())

    def test_a_new_shield(self):
        self.check([], [("start", 0, 2), ("start", 0, 1), ("clock", 0, 0), ("look", 0, 0, None), ("restart", None)])
        self.assertEqual(open_saved(*EXAMPLE).form(), Shield().form())

    def test_all_parts(self):
        self.check(RICH, [
            ("lock", 0, 0), ("lock", 0, 1), ("unlock", 9, 0), ("woken", 3), ("woken", 6), ("unlock", 0, 1), ("woken", 6),
            ("woken", 7), ("unlock", 6, 1), ("woken", 7), ("woken", 1), ("unlock", 3, 0), ("woken", 1), ("woken", 5),
            ("unlock", 1, 0), ("woken", 5), ("woken", 4), ("unlock", 0, 2), ("woken", 4), ("woken", 8), ("clock", 0, 499),
            ("clock", 0, 500), ("map", 0, 1, 3999), ("unmap", 0, 3001), ("unmap", 0, 3000), ("map", 0, 1, 3999),
            ("map", 0, 1, 74), ("start", 0, 9), ("start", 0, 10), ("look", 0, 1, 0), ("look", 0, 2, 0), ("end", 9),
            ("create", 0, 0, 0, True), ("create", 0, 0, 1, True), ("restart", ("sync_names", 3)), ("restart", None),
            ("look", 0, 2, 0), ("look", 0, 2, None), ("look", 0, 1, None), ("start", 0, 11),
        ])

    def test_whoever_surely_has_been_woken(self):
        for future in ([("woken", 6), ("woken", 3), ("woken", 7), ("unlock", 6, 1), ("woken", 7)],
                       [("signal", 0, 0), ("signal", 0, 1), ("signal_all", 0, 0), ("woken", 7), ("woken", 1)],
                       [("signal", 0, 0), ("signal", 0, 0), ("woken", 4), ("woken", 2)],
                       [("lock", 0, 0), ("lock", 0, 1), ("woken", 3), ("woken", 6), ("woken", 1), ("woken", 2)],
                       [("start", 0, 8), ("lock", 8, 0), ("wait", 8, 1, 0), ("woken", 8), ("signal", 0, 1), ("woken", 8)]):
            self.check(LINES + SIGNALS, future)

    def test_blocks_of_which_some_places_count(self):
        for thread in (1, 2, 4, 5):
            lock = {1: 0, 2: 1, 4: 2, 5: 0}[thread]
            for other in (1, 2, 4, 5):
                future = [("woken", thread), ("unlock", thread, lock), ("woken", other), ("signal", 0, 0), ("woken", other),
                          ("start", 0, 8), ("lock", 8, 3), ("wait", 8, 0, 3), ("woken", 8), ("signal_all", 0, 0), ("woken", 8)]
                self.check(LINES + SIGNALS, future)
                self.check(LINES + SIGNALS[:1], future)

    def test_pages(self):
        future = [("read", 0, 0, 0, (1,)), ("read", 0, 0, 0, (8, 9)), ("read", 0, 0, 0, ()), ("sync", 0, 1, True),
                  ("read", 0, 1, 1, (6,)), ("write", 0, 1, 1, (6,), True), ("read", 0, 1, 1, (5,)), ("read", 0, 0, 1, ()),
                  ("restart", ("write", 0, 1, 0, (2,))), ("read", 0, 1, 0, (2,)), ("read", 0, 1, 1, (6,)),
                  ("remove", 0, 3, True), ("read", 0, 1, 1, None), ("restart", None), ("read", 0, 1, 1, (6,))]
        self.check(FILES, future)
        self.check(FILES + [future[1], future[3], future[5]], future)
        gone = FILES + [("read", 0, 1, 1, (5,)), ("write", 0, 1, 1, (6,), True), ("remove", 0, 3, True)]
        self.check(gone, [("read", 0, 1, 1, (6,)), ("read", 0, 1, 1, None), ("sync", 0, 1, False), ("restart", None),
                          ("look", 0, 3, 1), ("read", 0, 1, 1, (7,)), ("read", 0, 1, 1, (5,)), ("read", 0, 1, 1, (6,))])
        synced = FILES + [("read", 0, 1, 1, (5,)), ("remove", 0, 3, True)]
        self.check(synced, [("restart", None), ("look", 0, 3, 1), ("read", 0, 1, 1, ()), ("read", 0, 1, 1, (5,))])
        lost = FILES + [("write", 0, 1, 0, (3,), True), ("remove", 0, 3, True), ("sync_names", 0)]
        self.check(lost, [("restart", ("write", 0, 1, 0, (2,))), ("read", 0, 1, 0, None), ("read", 0, 1, 0, ()),
                          ("write", 0, 1, 0, (2,), True), ("create", 0, 3, 2, True), ("read", 0, 2, 0, ())])

    def test_too_many(self):
        events = [("create", 0, 2, 30, True), ("rename", 0, 0, 1, True), ("restart", ("create", 0, 2, 30))]
        shield, twin = self.opened(many_pairs(60))
        for event in events:
            self.assertEqual((shield.take(event), twin.take(event)), (TOO_MANY, TOO_MANY))
        self.check(many_pairs(60), events + [("look", 0, 0, 29), ("sync_names", 0)] + events)

    def test_the_reasons(self):
        _, twin = self.opened(RICH)
        for event, expected in ((("lock", 0, 2), rule(1)), (("woken", 8), rule(2)), (("woken", 3), rule(3)),
                                (("clock", 0, 499), rule(4)), (("map", 0, 1, 74), rule(5)), (("look", 0, 1, 0), rule(6)),
                                (("woken", 9), NO_CALL), (("unlock", 0, 0), NO_CALL), (("hear", 8, ()), NO_CALL)):
            self.assertEqual(twin.take(event), expected)

    def test_shields_are_apart(self):
        shield, twin = self.opened(RICH)
        form = shield.form()
        for event in (("unlock", 0, 2), ("woken", 4), ("clock", 0, 501), ("unmap", 0, 3000), ("sync_names", 0),
                      ("write", 0, 0, 0, (1,), True), ("restart", None)):
            self.assertIsNone(twin.take(event))
        self.assertEqual(shield.form(), form)
        items, receipt = save(shield, 4)
        kept = list(items)
        third = open_saved(items, receipt)
        items[:] = [0]
        self.assertEqual(third.form(), form)
        third.take(("restart", None))
        self.assertEqual(open_saved(kept, receipt).form(), form)

    def test_a_copy_of_an_opened_shield(self):
        shield, twin = self.opened(RICH)
        other = twin.copy()
        twin.take(("restart", None))
        self.assertEqual(other.form(), shield.form())


class Lines(unittest.TestCase):
    """All that up to five threads can do at two conditions."""

    MOVES = [("wait", 0), ("wait", 1), ("signal", 0), ("signal", 1), ("signal_all", 0), ("signal_all", 1)]

    def moved(self, shield, move):
        """What a shield answers to a move, after which all locks are free again."""
        kind, number = move
        if kind == "woken":
            answer = shield.take(("woken", number))
            for lock, thread in shield.form()[2]:
                shield.take(("unlock", thread, lock))
            return answer
        if kind != "wait":
            return shield.take((kind, 0, number))
        thread = shield.form()[1]
        if thread > 5:
            return None
        events = [("start", 0, thread), ("lock", thread, thread % 4), ("wait", thread, number, thread % 4)]
        return [shield.take(event) for event in events]

    def moves(self):
        return self.MOVES + [("woken", thread) for thread in range(1, 6)]

    def test_all_lines(self):
        states, edge = {Shield().form(): Shield()}, [Shield()]
        for _ in range(7):
            edge = [self.after(shield, move) for shield in edge for move in self.moves()]
            edge = list({shield.form(): shield for shield in edge if shield.form() not in states}.values())
            states.update({shield.form(): shield for shield in edge})
        self.assertGreater(len([form for form in states if any(len(blocks) > 1 for blocks in form[4])]), 100)
        for shield in states.values():
            self.compare(shield, open_saved(*save(shield, 1)), 2)

    def after(self, shield, move):
        twin = shield.copy()
        self.moved(twin, move)
        return twin

    def compare(self, shield, opened, depth):
        self.assertEqual(opened.form(), shield.form())
        if depth == 0:
            return
        for move in self.moves():
            one, two = shield.copy(), opened.copy()
            answer = self.moved(one, move)
            self.assertEqual(self.moved(two, move), answer, (shield.form(), move))
            if answer is None or move[0] == "wait":
                self.compare(one, two, depth - 1)


class Refused(unittest.TestCase):
    def refuses(self, items, receipt):
        kept = list(items)
        with self.assertRaises(NotSaved) as caught:
            open_saved(items, receipt)
        self.assertIsInstance(caught.exception, HonestrunError)
        self.assertIsInstance(caught.exception, ValueError)
        self.assertEqual(items, kept)

    def lists(self):
        return [save(shield_after(history), number) for number, history in ((7, []), (0, RICH), (65535, FILES), (3, LINES))]

    def test_one_integer_changed(self):
        for items, receipt in self.lists():
            for at, item in enumerate(items):
                for other in (item + 1, item - 1, 0, 1, 65535, 1000000, item + 500):
                    if other != item and 0 <= other <= 1000000:
                        self.refuses(items[:at] + [other] + items[at + 1:], receipt)

    def test_one_integer_left_out(self):
        for items, receipt in self.lists():
            for at in range(len(items)):
                self.refuses(items[:at] + items[at + 1:], receipt)
            self.refuses(items[:1], receipt)

    def test_one_integer_put_in(self):
        for items, receipt in self.lists():
            for at in range(len(items) + 1):
                for item in (0, 1, 7, 1000000):
                    self.refuses(items[:at] + [item] + items[at:], receipt)

    def test_integers_in_another_order(self):
        for items, receipt in self.lists():
            for at in range(len(items) - 1):
                if items[at] != items[at + 1]:
                    self.refuses(items[:at] + [items[at + 1], items[at]] + items[at + 2:], receipt)
            self.refuses(items[::-1], receipt)

    def test_the_empty_list(self):
        for _, receipt in self.lists():
            self.refuses([], receipt)

    def test_another_number(self):
        for history in ([], RICH, FILES):
            shield = shield_after(history)
            old, new = save(shield, 7), save(shield, 8)
            self.refuses(old[0], new[1])
            self.refuses(new[0], old[1])
            for number in (0, 6, 8, 1000000):
                self.refuses([number] + old[0][1:], old[1])
            open_saved(*old)
            open_saved(*new)

    def test_another_number_with_the_same_mark(self):
        first, receipt = save(shield_after([("start", 0, 1), ("start", 0, 2), ("end", 1), ("end", 2)]), 7)
        second, other = save(shield_after([("clock", 0, 1)]), 8)
        self.assertEqual(receipt[1], other[1])
        self.refuses(second, receipt)
        self.refuses(first, other)
        self.assertEqual(open_saved(first, receipt).form()[1], 3)
        self.assertEqual(open_saved(second, other).form()[5], 1)

    def test_the_list_of_another_shield(self):
        lists = self.lists()
        for items, _ in lists:
            for others, receipt in lists:
                if others != items:
                    self.refuses(items, receipt)


class Differences(unittest.TestCase):
    def test_what_tells_two_pasts_apart_tells_opened_shields_apart(self):
        histories = [[], RICH, FILES, LINES, LINES + SIGNALS, LINES + SIGNALS[:1], FILES[:6]]
        for first in histories:
            for second in histories:
                found = difference(first, second)
                if found is None:
                    self.assertEqual(first, second)
                    continue
                opened = [open_saved(*save(shield_after(history), 5)) for history in (first, second)]
                winner, loser = opened if found[0] == 1 else opened[::-1]
                self.assertEqual([winner.take(event) for event in found[1]], [None] * len(found[1]))
                answers = [loser.take(event) for event in found[1]]
                self.assertEqual(answers[:-1], [None] * (len(found[1]) - 1))
                self.assertIn(answers[-1][0], ("no call", "refused"))


if __name__ == "__main__":
    unittest.main()
