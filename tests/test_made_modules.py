"""Made modules, compared with a second program."""

import random
import unittest

from fascicle.check import checked
from fascicle.errors import Oversized, Refused
from fascicle.graph import Graph
from fascicle.link import link
from fascicle.meaning import run

import slow
from maker import MODULES, Maker, graphs


class MadeGraphsTest(unittest.TestCase):
    def test_searches(self):
        draw = random.Random(3)
        counts = {"found": 0, "nothing": 0, "two": 0}
        for _ in range(1500):
            modules = graphs(draw)
            graph = Graph(modules, "a")
            self.assertEqual(graph.order(), slow.order(modules, "a"))
            for module in MODULES:
                names = []
                for wanted in ("x", "y", "z"):
                    expected = slow.search(modules, module, wanted, [])
                    counts["two" if expected == slow.TWO else "found" if expected else "nothing"] += 1
                    if isinstance(expected, tuple):
                        names.append(wanted)
                        self.assertEqual(graph.resolve(module, wanted), expected, modules)
                    else:
                        self.assertIsNone(graph.resolve(module, wanted), modules)
                self.assertEqual(graph.exports(module), names)
        for count in counts.values():
            self.assertGreater(count, 200, counts)


class MadeProgramsTest(unittest.TestCase):
    def test_linked_modules_mean_the_same(self):
        draw = random.Random(5)
        counts = {"done": 0, "thrown": 0, "weary": 0, "refused": 0, "early": 0, "deep": 0}
        for _ in range(1200):
            modules = Maker(draw).modules(draw.randrange(1, 5))
            answers = [draw.randrange(-9, 70000) for _ in range(draw.randrange(4))]
            try:
                checked(modules, "a")
            except Oversized:
                continue
            except Refused:
                counts["refused"] += 1
                continue
            found = run(modules, "a", answers=answers)
            self.assertEqual(found, slow.Runner(link(modules, "a"), answers).run(), modules)
            self.assertEqual(list(found[2]), sorted(found[2]))
            counts[found[1][0]] += 1
            for word in ("early", "deep"):
                counts[word] += ("error", word) in [value for _, value, _ in found[0]]
        for kind, count in counts.items():
            (self.assertLess if kind == "refused" else self.assertGreater)(count, 20, counts)


if __name__ == "__main__":
    unittest.main()
