"""Drawn histories over the whole program: points 28, 29, 32 and 35 against the honest system of the tests."""

import random
import unittest

from honestrun.covers import covered, learnt
from honestrun.refusals import judge, why
from honestrun.saved import open_saved, save
from honestrun.shields import Shield, taken
from tests.alone import EVENTS, PART_RULES, numbers_of, refusal_of
from tests.draws import KINDS, draw_event, draw_run
from tests.honest import Crowd, World
from tests.test_saved import decoded

# How many events a history of a theme has.
SIZES = {"threads": 60, "names": 40, "changes": 50, "pages": 40, "plain": 40, "all": 50}
MOST_WORLDS = 200


def draw_history(rng, theme, many):
    """A history with wrong events in it, and what is wrong first: the number of this event and the answer to it.

    Wrong events stand between those that an honest system, which never saw them, goes on to give.
    """
    crowd, history, first = Crowd(), [], None
    keeps = {"no call": rng.choice((0, 0, 0.02, 0.1)), "refused": rng.choice((0, 0.02, 0.1, 0.5)), "too many": 0}
    while len(history) < many and len(crowd.worlds) <= MOST_WORLDS:
        event = draw_event(rng, rng.choice(crowd.worlds), theme)
        answer = crowd.take(event)
        if answer is None:
            history.append(event)
        elif rng.random() < keeps[answer[0]]:
            first = first or (len(history), answer)
            history.append(event)
    return history, first


def histories(name, many):
    """Drawn histories of all themes, with what is wrong first, and a source of more that is drawn."""
    for theme, size in SIZES.items():
        for seed in range(many):
            rng = random.Random(f"{name} {theme} {seed}")
            yield (rng, theme, *draw_history(rng, theme, size))


def accepted(history):
    """All refusals of the form of point 27 that the judge accepts."""
    found = []
    for part, rules in PART_RULES.items():
        for number, event in enumerate(history):
            if event[0] in EVENTS[part]:
                numbers = numbers_of(history, part, number)
                found += [(number, rule, part, numbers) for rule in rules if judge(history, (number, rule, part, numbers))]
    return found


class DrawnRefusals(unittest.TestCase):
    def test_the_judge_accepts_no_refusal_of_an_honest_history(self):
        for theme, size in SIZES.items():
            for seed in range(25):
                history = draw_run(random.Random(f"honest {theme} {seed}"), theme, size, World())
                self.assertEqual(accepted(history), [], history)
                self.assertIsNone(why(history))

    def test_a_history_with_an_accepted_refusal_is_not_honest(self):
        wrong = 0
        for _, _, history, first in histories("accepted", 25):
            found = accepted(history)
            if found:
                self.assertIsNotNone(first, (history, found))
                wrong += 1
        self.assertGreater(wrong, 40)

    def test_the_judge_accepts_what_the_part_alone_refuses(self):
        rules = {}
        for _, _, history, _ in histories("alone", 80):
            expected = [refusal_of(history, part) for part in PART_RULES]
            found = accepted(history)
            self.assertEqual(found, [refusal for refusal in expected if refusal is not None], history)
            for refusal in found:
                rules[refusal[1]] = rules.get(refusal[1], 0) + 1
        self.assertEqual(sorted(rules), list(range(1, 14)))

    def test_why(self):
        rules = {}
        for _, _, history, first in histories("why", 150):
            found = why(history)
            self.assertEqual(taken(history), first, history)
            if first is None or first[1][0] != "refused":
                self.assertIsNone(found, history)
                continue
            number, (_, rule) = first
            part = next(name for name in PART_RULES if rule in PART_RULES[name])
            self.assertEqual(found, (number, rule, part, numbers_of(history, part, number)))
            self.assertTrue(judge(history, found), (history, found))
            rules[rule] = rules.get(rule, 0) + 1
        self.assertEqual(sorted(rules), list(range(1, 14)))


class DrawnCovers(unittest.TestCase):
    def draw_cover(self, rng, history):
        """Names in some order, and a book of all texts that occur and of some more."""
        calls = [event[1] if event[0] == "restart" and event[1] else event for event in history]
        texts = {call[4] for call in calls if call[0] in ("read", "write")} | {call[2] for call in calls if call[0] == "hear"}
        firsts = sorted(texts - {None, ()}) + [(70, 70), (71,)]
        seconds = set()
        while len(seconds) < len(firsts):
            seconds.add(tuple(rng.randrange(9) for _ in range(rng.randrange(1, 4))))
        seconds = sorted(seconds)
        rng.shuffle(seconds)
        rng.shuffle(firsts)
        names = list(range(4))
        rng.shuffle(names)
        return tuple(names), list(zip(firsts, seconds))

    def test_covered_histories(self):
        answers = set()
        for rng, theme, history, first in histories("covers", 60):
            names, book = self.draw_cover(rng, history)
            kept = list(history), list(book)
            other = covered(history, names, book)
            self.assertEqual((history, book), kept)
            self.assertEqual(learnt(other), learnt(history))
            self.assertEqual(taken(other), taken(history), (history, names, book))
            self.assertEqual(taken(other), first)
            answers.add(first and first[1])
            # It is covered back by the cover that is turned round.
            back = tuple(names.index(name) for name in range(4))
            self.assertEqual(covered(other, back, [(second, text) for text, second in book]), history)
        self.assertGreater(len(answers), 10)

    def test_all_answers_are_the_same(self):
        for rng, theme, history, _ in histories("answers", 40):
            names, book = self.draw_cover(rng, history)
            shield, twin, crowd = Shield(), Shield(), Crowd()
            for event, other in zip(history, covered(history, names, book)):
                answer = shield.take(event)
                self.assertEqual(twin.take(other), answer, (history, names, book))
                self.assertEqual(crowd.take(other), answer, (history, names, book))


class DrawnShields(unittest.TestCase):
    def test_opened_shields(self):
        seen = {}
        for theme, size in SIZES.items():
            # It takes long until some threads wait behind others of which some have been woken.
            for seed in range(200 if theme == "threads" else 60):
                rng = random.Random(f"saved {theme} {seed}")
                self.go_on(rng, theme, self.draw_past(rng, theme, 2 * size), seen)
        for what in ("woken", "blocks", "counted", "names", "now", "not known", "later"):
            self.assertGreater(seen.get(what, 0), 10, what)

    def draw_past(self, rng, theme, size):
        """A shield, and the crowd with the same past."""
        crowd, shield = Crowd(), Shield()
        for _ in range(rng.randrange(size)):
            event = draw_event(rng, rng.choice(crowd.worlds), theme)
            self.assertEqual(shield.take(event), crowd.take(event))
            if len(crowd.worlds) > MOST_WORLDS:
                break
        return shield, crowd

    def go_on(self, rng, theme, past, seen):
        """A shield is saved and opened: the same answers and forms over a drawn future, the same when saved again."""
        shield, crowd = past
        number = rng.randrange(1000001)
        form = shield.form()
        items, receipt = save(shield, number)
        self.assertEqual(decoded(items), (number, form))
        self.assertEqual(shield.form(), form)
        twin = open_saved(items, receipt)
        self.assertEqual(twin.form(), form)
        self.assertEqual(save(twin, number), (items, receipt))
        self.note(form, seen)
        # Many events that are not taken, too, and each on its own.
        for _ in range(60):
            event = draw_event(rng, rng.choice(crowd.worlds), rng.choice((theme, "all")))
            self.assertEqual(twin.copy().take(event), shield.copy().take(event), (form, event))
        for _ in range(40):
            event = draw_event(rng, rng.choice(crowd.worlds), theme)
            answer = shield.take(event)
            self.assertEqual(twin.take(event), answer, (form, event))
            self.assertEqual(twin.form(), shield.form(), (form, event))
            self.assertEqual(crowd.take(event), answer, (form, event))
            if rng.random() < 0.1:
                twin = open_saved(*save(twin, 5))
            if len(crowd.worlds) > MOST_WORLDS:
                break

    def note(self, form, seen):
        """What there was to be saved."""
        _, _, _, woken, waits, _, _, names, pages, _ = form
        files = {stamp for now, _ in names for stamp in now}
        told = {
            "woken": woken, "blocks": [blocks for blocks in waits if len(blocks) > 1],
            "counted": [block for blocks in waits for block in blocks if 0 < block[1] < len(block[0]) - 1],
            "names": len(names) > 3, "now": [entry for entry in pages if entry[2] is not None],
            "not known": [entry for entry in pages if entry[2] is None and entry[0] in files],
            "later": [entry for entry in pages if entry[0] not in files],
        }
        for what, found in told.items():
            seen[what] = seen.get(what, 0) + bool(found)


if __name__ == "__main__":
    unittest.main()
