"""Drawn calls, answered by the program and by the model in helper.py."""

import random
import unittest

from tests.helper import LARGEST, Model, run

NAMES = ("line",) * 8 + ("cut", "choose", "turn", "turn", "greedy", "best", "lines", "chosen", "nearest", "near")


def drawn_value(drawn, most):
    """Mostly what there may be, sometimes just beyond it or far off."""
    if drawn.random() < 0.04:
        return drawn.choice((0, most + 1, 255, 256, LARGEST))
    return drawn.randint(0, most)


def drawn_call(drawn, n, longest):
    name = drawn.choice(NAMES)
    if drawn.random() < 0.01:
        return ("begin", drawn.randint(0, 9))
    if name == "line":
        return (name, drawn_value(drawn, n - 1), drawn_value(drawn, n - 1), drawn_value(drawn, longest))
    if name in ("best", "lines", "chosen"):
        return (name,)
    most = {"cut": 13, "choose": 2 ** n - 1, "greedy": 8}.get(name, n - 1)
    return (name, drawn_value(drawn, most))


class AgainstTheModel(unittest.TestCase):
    def test_drawn_calls(self):
        for seed in range(160):
            drawn = random.Random(seed)
            n = seed % 8 + 1
            longest = drawn.choice((1, 2, 4, 99))
            calls = [("begin", n)] + [drawn_call(drawn, n, longest) for _ in range(60)]
            model = Model()
            wanted = [model.call(*call) for call in calls]
            for call, got, want in zip(calls, run(*calls), wanted):
                self.assertEqual(got, want, (seed, call))


if __name__ == "__main__":
    unittest.main()
