"""Made modules and their bundles: both do the same, in every naming and layout and after all passes."""

import itertools
import random
import unittest

from fascicle.bundle import PASSES, bundle, origin
from fascicle.errors import Refused
from fascicle.meaning import run

from helper import refusal
from maker import Maker, graphs

NAMINGS, LAYOUTS = ("plain", "kept", "short"), ("tight", "lines")
# All orders of passes, and some in which passes come several times.
ORDERS = [(), *[order for count in (1, 2, 3) for order in itertools.permutations(PASSES, count)],
          ("shake", "fold", "dead", "shake", "fold"), ("dead", "dead", "fold", "fold"), PASSES * 2]
OPTIONS = [{"passes": passes, "naming": naming, "layout": layout} for passes, naming, layout in itertools.product(ORDERS, NAMINGS, LAYOUTS)]


def mapped_run(text, places, answers):
    """Run a bundle; return its events with the places that they come from, its end and its exports."""
    events, end, exports = run({"bundle": text}, "bundle", answers=answers)
    return [(kind, shown, origin(places, at)) for kind, shown, (_, at) in events], end, exports


class MadeBundlesTest(unittest.TestCase):
    def test_bundles_do_the_same(self):
        draw = random.Random(19)
        counts = {"done": 0, "thrown": 0, "weary": 0, "exports": 0, "early": 0, "long": 0}
        for at in range(len(OPTIONS) * 6):
            options = OPTIONS[at % len(OPTIONS)]
            modules = Maker(draw).modules(draw.randrange(1, 5))
            answers = [draw.randrange(-9, 70000) for _ in range(draw.randrange(4))]
            try:
                expected = run(modules, "a", answers=answers)
            except Refused:
                self.assertEqual(refusal(lambda: bundle(modules, "a", **options)), refusal(run, modules, "a"))
                continue
            text, places = bundle(modules, "a", **options)
            if len(text) > 20000:
                counts["long"] += 1
                continue
            self.assertEqual(mapped_run(text, places, answers), expected, (modules, options))
            self.assertEqual(list(run({"b": text}, "b")[2]), list(expected[2]))
            counts[expected[1][0]] += 1
            counts["exports"] += len(expected[2]) > 0
            counts["early"] += ("early",) in expected[2].values()
        self.assertLess(counts.pop("long"), 50)
        self.assertGreater(min(counts.values()), 5, counts)

    def test_all_options_for_some_modules(self):
        draw = random.Random(23)
        for _ in range(5):
            modules = Maker(draw).modules(draw.randrange(2, 5))
            try:
                expected = run(modules, "a", answers=[5, 6])
            except Refused:
                continue
            for options in OPTIONS:
                text, places = bundle(modules, "a", **options)
                self.assertLessEqual(len(text), 20000)
                self.assertEqual(mapped_run(text, places, [5, 6]), expected, (modules, options))
                self.assertEqual(places, sorted(places))

    def test_bundles_of_bundles(self):
        draw = random.Random(29)
        compared = 0
        for _ in range(100):
            modules = Maker(draw).modules(draw.randrange(1, 4))
            try:
                text, _ = bundle(modules, "a")
                again, _ = bundle({"b": text}, "b")
            except Refused:
                continue
            # Passes that come once more may find more to do, but what they print is a bundle of the same modules.
            more, _ = bundle(modules, "a", passes=PASSES * 2)
            self.assertEqual(again, more)
            compared += 1
        self.assertGreater(compared, 50)

    def test_refused_graphs(self):
        draw = random.Random(31)
        refused = {}
        for _ in range(600):
            modules = graphs(draw)
            expected = refusal(run, modules, "a")
            self.assertEqual(refusal(bundle, modules, "a"), expected)
            kind = expected[0] if expected else "none"
            refused[kind] = refused.get(kind, 0) + 1
        for kind in ("Clashing", "Unknown", "NoExport", "Misused", "none"):
            self.assertGreater(refused.get(kind, 0), 2, refused)


if __name__ == "__main__":
    unittest.main()
