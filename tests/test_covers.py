"""Points 30 to 32: covered histories, and what a system learns from them."""

import unittest
from itertools import permutations, product

from honestrun.covers import covered, learnt
from honestrun.errors import HonestrunError, NotInBook
from honestrun.shields import taken
from tests.helpers import NO_CALL, rule

PLAIN = (0, 1, 2, 3)
MIXED = (2, 0, 3, 1)
BOOK = [((1,), (9, 9)), ((2,), (1,)), ((7, 1), (7, 1)), ((0,), (2,)), ((65535,) * 20, (0,))]

# Calls, and what they are when they are covered by MIXED and BOOK; those with True can be cut.
COVERED_CALLS = [
    (("look", 1, 0, 1), ("look", 1, 2, 1), False),
    (("look", 1, 3, None), ("look", 1, 1, None), False),
    (("create", 1, 1, 2, True), ("create", 1, 0, 2, True), True),
    (("create", 3, 2, 0, False), ("create", 3, 3, 0, False), True),
    (("remove", 0, 3, True), ("remove", 0, 1, True), True),
    (("rename", 2, 0, 1, False), ("rename", 2, 2, 0, False), True),
    (("rename", 2, 3, 3, True), ("rename", 2, 1, 1, True), True),
    (("write", 2, 1, 0, (1,), True), ("write", 2, 1, 0, (9, 9), True), True),
    (("write", 0, 2, 1, (65535,) * 20, False), ("write", 0, 2, 1, (0,), False), True),
    (("write", 2, 1, 0, (), True), ("write", 2, 1, 0, (), True), True),
    (("sync", 2, 1, True), ("sync", 2, 1, True), True),
    (("read", 2, 1, 0, (2,)), ("read", 2, 1, 0, (1,)), False),
    (("read", 2, 1, 0, ()), ("read", 2, 1, 0, ()), False),
    (("read", 2, 1, 0, None), ("read", 2, 1, 0, None), False),
    (("hear", 1, (7, 1)), ("hear", 1, (7, 1)), False),
    (("hear", 2, (0,)), ("hear", 2, (2,)), False),
    (("hear", 2, ()), ("hear", 2, ()), False),
]
OTHERS = [
    ("start", 0, 1), ("end", 1), ("lock", 1, 2), ("unlock", 1, 2), ("wait", 1, 0, 1), ("signal", 2, 1), ("signal_all", 2, 0),
    ("woken", 2), ("clock", 1, 2), ("map", 1, 2, 3), ("unmap", 1, 2), ("sync_names", 2), ("restart", None),
    ("restart", ("sync_names", 2)), ("restart", ("sync", 1, 2)),
]


class Covered(unittest.TestCase):
    def check(self, history, expected, names=MIXED, book=BOOK):
        kept = list(history), tuple(names), list(book)
        found = covered(history, names, book)
        self.assertEqual(found, expected)
        self.assertIsInstance(found, list)
        self.assertIsNot(found, history)
        self.assertEqual((history, names, book), kept)

    def test_names_and_texts_of_each_kind(self):
        for event, expected, _ in COVERED_CALLS:
            self.check([event], [expected])
        self.check([call[0] for call in COVERED_CALLS], [call[1] for call in COVERED_CALLS])

    def test_cut_calls_of_each_kind(self):
        cut = 0
        for event, expected, can_be_cut in COVERED_CALLS:
            if can_be_cut:
                self.check([("restart", event[:-1])], [("restart", expected[:-1])])
                cut += 1
        self.assertEqual(cut, 9)

    def test_all_else_is_as_it_was(self):
        self.check(OTHERS, OTHERS)
        for event in OTHERS:
            self.check([event], [event], MIXED, [])
        self.check([], [])
        self.check([], [], PLAIN, [])

    def test_names_above_3_stay(self):
        self.check([("look", 0, 4, None), ("create", 0, 65535, 0, True), ("rename", 0, 4, 0, False), ("rename", 0, 0, 5, True)],
                   [("look", 0, 4, None), ("create", 0, 65535, 0, True), ("rename", 0, 4, 2, False), ("rename", 0, 2, 5, True)])
        self.check([("restart", ("rename", 0, 4, 1)), ("restart", ("remove", 0, 7)), ("restart", ("create", 0, 4, 0))],
                   [("restart", ("rename", 0, 4, 0)), ("restart", ("remove", 0, 7)), ("restart", ("create", 0, 4, 0))])

    def test_the_names_of_all_orders(self):
        for names in permutations(range(4)):
            for name in range(4):
                self.check([("look", 0, name, name)], [("look", 0, names[name], name)], names)
                for other in range(4):
                    self.check([("rename", 0, name, other, True)], [("rename", 0, names[name], names[other], True)], names)

    def test_a_cover_that_changes_nothing(self):
        history = [call[0] for call in COVERED_CALLS] + OTHERS
        book = [(text, text) for text, _ in BOOK]
        self.check(history, history, PLAIN, book)

    def test_texts_are_replaced_once(self):
        book = [((1,), (2,)), ((2,), (1,))]
        self.check([("hear", 0, (1,)), ("hear", 0, (2,))], [("hear", 0, (2,)), ("hear", 0, (1,))], PLAIN, book)
        long = (5,) * 25
        self.check([("hear", 0, long), ("hear", 0, (1,))], [("hear", 0, (1,)), ("hear", 0, long)], PLAIN,
                   [(long, (1,)), ((1,), long)])


class Books(unittest.TestCase):
    def raises(self, history, book):
        kept = list(history), list(book)
        with self.assertRaises(NotInBook) as caught:
            covered(history, PLAIN, book)
        self.assertIsInstance(caught.exception, HonestrunError)
        self.assertIsInstance(caught.exception, ValueError)
        self.assertEqual((history, book), kept)

    def test_a_text_that_has_no_pair(self):
        for event in (("read", 0, 0, 0, (1,)), ("write", 0, 0, 0, (1,), True), ("write", 0, 0, 0, (1,), False),
                      ("hear", 0, (1,)), ("restart", ("write", 0, 0, 0, (1,)))):
            for book in ([], [((2,), (1,))], [((1, 0), (3,)), ((0, 1), (1,)), ((2,), (4,))]):
                self.raises([event], book)
            covered([event], PLAIN, [((2,), (3,)), ((1,), (1,))])

    def test_a_book_that_lacks_one_text(self):
        history = [call[0] for call in COVERED_CALLS] + OTHERS
        history += [("restart", call[0][:-1]) for call in COVERED_CALLS if call[2]]
        covered(history, PLAIN, BOOK)
        for at in range(len(BOOK)):
            self.raises(history, BOOK[:at] + BOOK[at + 1:])

    def test_the_last_event_alone_has_a_text_that_has_no_pair(self):
        history = [("hear", 0, (1,)), ("restart", ("write", 0, 0, 0, (2,)))]
        self.raises(history, [((1,), (2,))])
        self.raises(history, [((2,), (1,))])
        self.raises(history, [((1,), (2,)), ((3,), (1,))])

    def test_no_text_that_is_looked_for(self):
        for history in ([("read", 0, 0, 0, None)], [("read", 0, 0, 0, ())], [("write", 0, 0, 0, (), True)], [("hear", 0, ())],
                        [("restart", ("write", 0, 0, 0, ()))], [("restart", None)], OTHERS, []):
            self.assertEqual(covered(history, PLAIN, []), history)

    def test_pairs_that_are_not_used(self):
        self.assertEqual(covered([("hear", 0, ())], PLAIN, BOOK), [("hear", 0, ())])


class Learnt(unittest.TestCase):
    def check(self, history, expected):
        kept = list(history)
        found = learnt(history)
        self.assertEqual(found, expected)
        self.assertIsInstance(found, list)
        self.assertIsNot(found, history)
        self.assertEqual(history, kept)

    def test_names_in_the_order_of_their_first_occurrence(self):
        self.check([("look", 0, 3, None), ("create", 0, 1, 0, True), ("look", 0, 3, None), ("remove", 0, 0, False)],
                   [("look", 0, 0, None), ("create", 0, 1, 0, True), ("look", 0, 0, None), ("remove", 0, 2, False)])

    def test_the_names_of_a_rename_from_left_to_right(self):
        self.check([("rename", 0, 3, 0, True)], [("rename", 0, 0, 1, True)])
        self.check([("rename", 0, 2, 2, True), ("rename", 0, 1, 2, True)], [("rename", 0, 0, 0, True), ("rename", 0, 1, 0, True)])
        self.check([("look", 0, 0, None), ("rename", 0, 3, 0, True)], [("look", 0, 0, None), ("rename", 0, 1, 0, True)])
        self.check([("restart", ("rename", 0, 3, 0)), ("look", 0, 0, 7)], [("restart", ("rename", 0, 0, 1)), ("look", 0, 1, 7)])

    def test_texts_in_the_order_of_their_first_occurrence(self):
        self.check(
            [("hear", 0, (9,)), ("write", 0, 0, 0, (), True), ("write", 0, 1, 1, (5, 5), False), ("read", 0, 0, 1, (9,)),
             ("read", 0, 1, 0, None), ("read", 0, 0, 0, ()), ("hear", 0, (1,))],
            [("hear", 0, (1,)), ("write", 0, 0, 0, (), True), ("write", 0, 1, 1, (2,), False), ("read", 0, 0, 1, (1,)),
             ("read", 0, 1, 0, None), ("read", 0, 0, 0, ()), ("hear", 0, (3,))],
        )

    def test_cut_calls(self):
        self.check(
            [("restart", ("create", 0, 2, 0)), ("restart", ("remove", 0, 1)), ("restart", ("rename", 0, 3, 2)),
             ("restart", ("write", 0, 1, 0, (8,))), ("restart", ("write", 0, 1, 0, ())), ("restart", ("sync", 0, 3)),
             ("restart", ("sync_names", 3)), ("restart", None), ("look", 3, 3, 3), ("hear", 3, (7,)), ("hear", 0, (8,))],
            [("restart", ("create", 0, 0, 0)), ("restart", ("remove", 0, 1)), ("restart", ("rename", 0, 2, 0)),
             ("restart", ("write", 0, 1, 0, (1,))), ("restart", ("write", 0, 1, 0, ())), ("restart", ("sync", 0, 3)),
             ("restart", ("sync_names", 3)), ("restart", None), ("look", 3, 2, 3), ("hear", 3, (2,)), ("hear", 0, (1,))],
        )

    def test_names_above_3_count(self):
        self.check([("look", 0, 9, None), ("look", 0, 0, None), ("rename", 0, 65535, 9, True), ("remove", 0, 4, False),
                    ("remove", 0, 3, False)],
                   [("look", 0, 0, None), ("look", 0, 1, None), ("rename", 0, 2, 0, True), ("remove", 0, 3, False),
                    ("remove", 0, 4, False)])

    def test_names_and_texts_are_counted_apart(self):
        self.check([("hear", 0, (3,)), ("look", 0, 3, None), ("hear", 0, (0,)), ("look", 0, 1, None)],
                   [("hear", 0, (1,)), ("look", 0, 0, None), ("hear", 0, (2,)), ("look", 0, 1, None)])

    def test_all_else_is_as_it_was(self):
        self.check(OTHERS, OTHERS)
        self.check([], [])

    def test_each_history_is_counted_anew(self):
        for _ in range(2):
            self.check([("look", 0, 3, None), ("hear", 0, (5,))], [("look", 0, 0, None), ("hear", 0, (1,))])


class TheSameIsLearnt(unittest.TestCase):
    """Point 32."""

    def test_of_two_histories_from_which_the_same_is_learnt_each_is_the_other_one_covered(self):
        texts = ((5,), (6, 6))
        events = [("look", 0, name, None) for name in range(4)]
        events += [("rename", 0, a, b, True) for a, b in product(range(4), repeat=2)]
        events += [("restart", ("remove", 0, name)) for name in range(4)]
        events += [("hear", 0, text) for text in ((), *texts)]
        events += [("read", 0, 0, 0, None), ("restart", ("write", 0, 0, 0, (5,))), ("restart", ("write", 0, 0, 0, (6, 6)))]
        histories = [list(history) for many in range(3) for history in product(events, repeat=many)]
        alike = {}
        for history in histories:
            alike.setdefault(tuple(learnt(history)), set()).add(tuple(history))
        books = [list(zip(texts, others)) for others in permutations(texts)]
        for history in histories:
            covers = {tuple(covered(history, names, book)) for names in permutations(range(4)) for book in books}
            self.assertEqual(covers, alike[tuple(learnt(history))])

    def test_what_is_learnt_is_learnt_from_it(self):
        history = [call[0] for call in COVERED_CALLS] + OTHERS + [("look", 0, 8, None)]
        self.assertEqual(learnt(learnt(history)), learnt(history))
        self.assertEqual(learnt(covered(history, MIXED, BOOK)), learnt(history))

    def test_a_shield_takes_as_much(self):
        history = [
            ("create", 0, 0, 0, True), ("sync_names", 0), ("write", 0, 0, 0, (1,), True),
            ("restart", ("rename", 0, 0, 1)), ("look", 0, 1, 0), ("read", 0, 0, 0, (1,)),
        ]
        for last, expected in ((("look", 0, 0, None), None), (("look", 0, 0, 0), (6, rule(6))), (("look", 0, 4, 0), (6, NO_CALL)),
                               (("read", 0, 0, 0, (2,)), (6, rule(11))), (("remove", 0, 2, True), (6, rule(8)))):
            for names in permutations(range(4)):
                self.assertEqual(taken(history + [last]), expected)
                self.assertEqual(taken(covered(history + [last], names, BOOK)), expected)


if __name__ == "__main__":
    unittest.main()
