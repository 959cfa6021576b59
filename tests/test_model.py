"""Drawn calls, answered by the program and by the model in helper.py."""

import random
import unittest

from tests.helper import CHANGES, Model, drawn_call, run


class AgainstTheModel(unittest.TestCase):
    def test_drawn_calls(self):
        for seed in range(160):
            drawn = random.Random(seed)
            n = seed % 8 + 1
            longest = drawn.choice((1, 2, 4, 99))
            calls = [("begin", n)] + [drawn_call(drawn, n, longest) for _ in range(120)]
            self.alike(seed, calls)

    def test_looking_behind_every_change(self):
        for seed in range(40):
            drawn = random.Random(1000 + seed)
            n = seed % 8 + 1
            calls = [("begin", n)]
            while len(calls) < 240:
                calls.append(drawn_call(drawn, n, drawn.choice((2, 99))))
                if calls[-1][0] in CHANGES + ("back",):
                    u, v = drawn.randrange(n), drawn.randrange(n)
                    calls += [("state",), ("told", u, v), ("dist", u, v), ("worst",), ("all",), ("first", u, v + 1)]
            self.alike(seed, calls)

    def alike(self, seed, calls):
        model = Model()
        wanted = [model.call(*call) for call in calls]
        for call, got, want in zip(calls, run(*calls), wanted):
            self.assertEqual(got, want, (seed, call))


if __name__ == "__main__":
    unittest.main()
