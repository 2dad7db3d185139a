"""[13], [17], [18], [19] and [20] at drawn runs of worlds: the main sentence, and that a world does what its words tell."""

import random
import unittest

from homeshold.errors import NoEvent
from homeshold.world import World
from runs import MIXES, Judge, Model, drawn_event, drawn_members, is_done, seen

NAMES = ("a", "b")


def drawn_run(case, seed, mix, steps, often):
    """A world to which so many events were drawn, judged all along; its moment is looked at each so often."""
    draw = random.Random(seed)
    homes = draw.randrange(1, 8)
    world = World(homes, drawn_members(draw, homes))
    judge = Judge(case)
    judge.look(world)
    for k in range(steps):
        if is_done(world, drawn_event(draw, world, mix, NAMES)):
            judge.read(world)
            if k % often == 0:
                judge.look(world)
    judge.end(world.copy())
    return world


class TestMainSentence(unittest.TestCase):
    def check_runs(self, mix, seeds, steps, often):
        words, results, quick = {}, {}, 0
        for seed in seeds:
            with self.subTest(seed=seed):
                world = drawn_run(self, seed, mix, steps, often)
                for event in world.events():
                    words[event[0]] = words.get(event[0], 0) + 1
                for item in world.history():
                    if item[0] == "end":
                        results[item[3][0]] = results.get(item[3][0], 0) + 1
                    quick += item[0] == "quick" and item[3] is not None
        return words, results, quick

    def test_all_kinds_of_events(self):
        words, results, quick = self.check_runs(0, range(80), 900, 4)
        for word in ("hand", "do", "again", "die", "come", "double", "lose", "cut", "fall", "rise", "gone", "tick", "collect",
                     "compact", "mend", "quick"):
            self.assertGreater(words.get(word, 0), 20, word)
        for word in ("read", "written", "removed", "copied", "names", "leased", "freed", "moved", "carried"):
            self.assertGreater(results.get(word, 0), 5, word)
        self.assertGreater(quick, 5)

    def test_many_moves(self):
        words, results, _ = self.check_runs(1, range(1000, 1060), 900, 4)
        self.assertGreater(results["moved"], 100)
        self.assertGreater(words["gone"], 20)

    def test_hands_that_write_at_once(self):
        _, results, quick = self.check_runs(2, range(2000, 2040), 900, 4)
        self.assertGreater(results["written"], 200)
        self.assertGreater(quick, 20)

    def test_homes_that_are_lost(self):
        words, results, _ = self.check_runs(3, range(3000, 3050), 900, 4)
        self.assertGreater(words["gone"], 50)
        self.assertGreater(words["cut"], 50)
        self.assertGreater(results["written"], 50)


class TestModel(unittest.TestCase):
    def test_drawn_runs(self):
        let, refused = {}, {}
        for seed in range(60):
            draw = random.Random(seed)
            homes = draw.randrange(1, 6)
            members = drawn_members(draw, homes)
            world, model = World(homes, members), Model(homes, members)
            self.assertEqual(seen(world), model.seen())
            for k in range(300):
                event = drawn_event(draw, world, seed % len(MIXES), NAMES)
                if draw.random() < 0.05:
                    # Some part of it is another number.
                    part = draw.randrange(1, len(event))
                    event = event[:part] + (draw.choice((0, 1, 2, 9, 25)),) + event[part + 1:]
                self.check_event(world, model, event, let, refused)
                if k % 10 == 0:
                    self.assertEqual(seen(world), model.seen(), (seed, k))
            self.assertEqual(seen(world), model.seen(), seed)
        self.assertEqual(len(let), 16)
        self.assertGreater(min(let.values()), 20)
        self.assertEqual(len(refused), 16)

    def check_event(self, world, model, event, let, refused):
        before = len(world.events()), world.bag(), world.history()
        wanted = self.has_form(event) and model.lets(event)
        if wanted:
            self.assertIsNone(world.event(event))
            model.do(event)
        else:
            with self.assertRaises(NoEvent):
                world.event(event)
            self.assertEqual((len(world.events()), world.bag(), world.history()), before)
        self.assertEqual(world.bag(), model.bag)
        self.assertEqual(world.homes(), model.states)
        told = let if wanted else refused
        told[event[0]] = told.get(event[0], 0) + 1

    def has_form(self, event):
        """Whether an event with one part exchanged for a number still is one."""
        if event[0] in ("hand", "do", "again", "die", "quick") and not 1 <= event[1] <= 99:
            return False
        if event[0] in ("do", "quick", "tick"):
            return not isinstance(event[-1], int)
        return event[0] not in ("fall", "rise", "gone", "collect", "compact", "mend") or event[1] <= 8

if __name__ == "__main__":
    unittest.main()
