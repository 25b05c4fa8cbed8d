"""What several test files use."""

import unittest

from honestrun.differences import difference
from honestrun.shields import Shield, taken
from tests.draws import KINDS

NO_CALL = ("no call",)
TOO_MANY = ("too many",)


def rule(number):
    return ("refused", number)


def shield_after(history):
    """A shield that takes a history."""
    shield = Shield()
    for event in history:
        answer = shield.take(event)
        if answer is not None:
            raise AssertionError(f"{event} of {history}: {answer}")
    return shield


def part(history, at):
    """A part of the form after a history."""
    return shield_after(history).form()[at]


def running(history):
    return part(history, 0)


def woken_and_waits(history):
    return shield_after(history).form()[3:5]


def names(history):
    return part(history, 7)


def pages(history):
    return part(history, 8)


def waiting(*waits):
    """A history in which threads 1, 2 .. wait: each with its (condition, lock)."""
    events = []
    for thread, (condition, lock) in enumerate(waits, 1):
        events += [("start", 0, thread), ("lock", thread, lock), ("wait", thread, condition, lock)]
    return events


def many_pairs(many):
    """A history of changes that are done, after which there are so many pairs of names."""
    events = []
    for at in range(many - 1):
        stamp = at // 2
        events.append(("create", 0, 0, stamp, True) if at % 2 == 0 else ("rename", 0, 0, 1, True))
    return events


class Checks(unittest.TestCase):
    def check(self, history, event, expected):
        """What `take` answers to an event after a history; what is not taken changes nothing."""
        shield = shield_after(history)
        form = shield.form()
        self.assertEqual(shield.take(event), expected, (history, event))
        if expected is not None:
            self.assertEqual(shield.form(), form)
            self.assertEqual(taken(history + [event]), (len(history), expected))
        else:
            self.assertIsNone(taken(history + [event]))

    def check_all(self, history, answers):
        """What `take` answers to events, each on its own after a history."""
        for event, expected in answers:
            with self.subTest(event=event):
                self.check(history, event, expected)

    def check_difference(self, first, second):
        """Point 25, in both directions."""
        forms = [shield_after(history).form() for history in (first, second)]
        for histories, here, there in (((first, second), *forms), ((second, first), *reversed(forms))):
            copies = [list(history) for history in histories]
            found = difference(*histories)
            self.assertEqual([list(history) for history in histories], copies)
            if here == there:
                self.assertIsNone(found, histories)
                continue
            self.assertIsNotNone(found, histories)
            which, future = found
            self.assertIn(which, (1, 2))
            self.assertIsInstance(future, list)
            self.assertLessEqual({event[0] for event in future}, set(KINDS["all"]))
            winner, loser = histories if which == 1 else histories[::-1]
            self.assertIsNone(taken(winner + future), (histories, found))
            number, answer = taken(loser + future)
            self.assertEqual(number, len(loser) + len(future) - 1, (histories, found))
            self.assertNotEqual(answer, TOO_MANY, (histories, found))
