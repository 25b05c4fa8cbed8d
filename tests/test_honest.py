"""Drawn histories: what a shield answers with what an honest system gives, in all its runs (points 19 to 24)."""

import random
import unittest

from honestrun.shields import Shield, taken
from tests.draws import KINDS, draw_event, draw_run
from tests.honest import Crowd, World
from tests.helpers import TOO_MANY

# For each theme: how many histories, and how many events each.
SIZES = {"threads": (250, 110), "names": (250, 60), "changes": (80, 140), "pages": (300, 45), "plain": (120, 60),
         "all": (250, 80)}
MOST_WORLDS = 500


class AgainstTheHonestSystem(unittest.TestCase):
    def compare(self, theme, seed, events):
        """Answers and forms after each of some drawn events, of which some are wrong. Returns the answers."""
        rng = random.Random(f"{theme} {seed}")
        crowd, shield, history, answers = Crowd(), Shield(), [], {}
        for _ in range(events):
            event = draw_event(rng, rng.choice(crowd.worlds), theme)
            expected = crowd.take(event)
            self.assertEqual(shield.take(event), expected, (history, event))
            self.assertEqual(shield.form(), crowd.form(), (history, event))
            answers[(event[0], expected)] = answers.get((event[0], expected), 0) + 1
            if expected is None:
                history.append(event)
            # As many worlds as this take long to follow.
            if len(crowd.worlds) > MOST_WORLDS:
                break
        self.assertIsNone(taken(history))
        return answers

    def test_answers_and_forms(self):
        self.assertEqual(set(SIZES), set(KINDS))
        answers = {}
        for theme, (histories, events) in SIZES.items():
            for seed in range(histories):
                for key, many in self.compare(theme, seed, events).items():
                    answers[key] = answers.get(key, 0) + many
        # The draws must reach all kinds of events and all answers.
        for kind in KINDS["all"]:
            self.assertIn((kind, None), answers)
        for kind, rules in (("lock", (1,)), ("woken", (2, 3)), ("clock", (4,)), ("map", (5,)), ("look", (6,)),
                            ("create", (7,)), ("remove", (8,)), ("rename", (9,)), ("read", (10, 11)), ("write", (12,)),
                            ("sync", (13,))):
            for rule in rules:
                self.assertIn((kind, ("refused", rule)), answers)
        for kind in ("create", "remove", "rename"):
            self.assertIn((kind, TOO_MANY), answers)
        for kind in set(KINDS["all"]) - {"hear", "sync_names"}:
            self.assertIn((kind, ("no call",)), answers)
        self.assertGreater(answers[("woken", None)], 300)

    def test_single_runs_are_taken(self):
        for theme in KINDS:
            for seed in range(60):
                history = draw_run(random.Random(f"run {theme} {seed}"), theme, 60, World())
                answer = taken(history)
                if answer is not None:
                    self.assertEqual(answer[1], TOO_MANY, history)

    def test_too_many_by_a_cut_change(self):
        reached = 0
        for seed in range(30):
            rng = random.Random(f"cut {seed}")
            crowd, shield = Crowd(), Shield()
            for _ in range(260):
                event = draw_event(rng, rng.choice(crowd.worlds), "changes")
                # These would leave fewer possibilities.
                if event[0] in ("restart", "sync_names", "look"):
                    continue
                self.assertEqual(shield.take(event), crowd.take(event))
                cut = ("restart", draw_event(rng, rng.choice(crowd.worlds), "changes")[:-1])
                if cut[1][0] in ("create", "remove", "rename"):
                    expected = self.other_way(crowd, cut)
                    self.assertEqual(shield.copy().take(cut), expected)
                    reached += expected == TOO_MANY
        self.assertGreater(reached, 20)

    def other_way(self, crowd, event):
        """What is answered to an event that the worlds do not follow."""
        twin = Crowd()
        twin.worlds = list(crowd.worlds)
        return twin.take(event)


if __name__ == "__main__":
    unittest.main()
