"""Made modules: the passes keep what they mean."""

import random
import unittest

from fascicle.dead import dead
from fascicle.errors import Refused
from fascicle.fold import fold
from fascicle.link import link
from fascicle.meaning import run
from fascicle.shake import shake

import slow
from maker import Maker

ORDERS = ((fold,), (dead,), (shake,), (fold, dead), (dead, fold), (fold, dead, fold), (fold, dead, shake), (shake, dead, fold))


class MadePassesTest(unittest.TestCase):
    def test_the_passes_keep_what_modules_mean(self):
        draw = random.Random(7)
        changed = {steps: 0 for steps in ORDERS}
        for _ in range(500):
            modules = Maker(draw).modules(draw.randrange(1, 5))
            answers = [draw.randrange(-9, 70000) for _ in range(draw.randrange(4))]
            try:
                linked = link(modules, "a")
            except Refused:
                continue
            expected = run(modules, "a", answers=answers)
            for steps in ORDERS:
                found = linked
                for step in steps:
                    found = step(found)
                self.assertEqual(slow.Runner(found, answers).run(), expected, (modules, steps))
                self.assertEqual(steps[-1](found).statements(), found.statements())
                self.assertEqual((found.exports(), found.variables()), (linked.exports(), linked.variables()))
                if shake not in steps:
                    self.assertEqual([(module, statement[-1]) for module, statement in found.statements()],
                                     [(module, statement[-1]) for module, statement in linked.statements()])
                changed[steps] += found.statements() != linked.statements()
        for count in changed.values():
            self.assertGreater(count, 200, changed)


if __name__ == "__main__":
    unittest.main()
