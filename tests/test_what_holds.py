"""What holds: c, d, e, and of f that what's refused, and looking, changes nothing."""

import random
import unittest

from tests.helper import FOURTEEN, LARGEST, Model, last, looks, run


def drawn_maps(most):
    """The calls that lay some maps of up to so many places, the same ones each time."""
    drawn = random.Random(3)
    for n in range(1, most + 1):
        for lines in (0, 1, n - 1, n + 2, 14):
            calls = [("begin", n)]
            longest = drawn.choice((1, 3, 99))
            for _ in range(lines if n > 1 else 0):
                a, b = drawn.sample(range(n), 2)
                calls.append(("line", a, b, drawn.randint(1, longest)))
            yield n, calls


def model_of(calls):
    model = Model()
    for call in calls:
        model.call(*call)
    return model


class ByGreed(unittest.TestCase):
    def test_one_is_among_the_k_nearest_of_each_and_nobody_has_k_near_ones(self):
        for n, calls in drawn_maps(8):
            model = model_of(calls)
            for k in range(1, 9):
                chosen = last(*calls, ("greedy", k), ("chosen",))[1:]
                for v in range(n):
                    self.assertTrue(set(model.first_of(model.ways(v), k)) & set(chosen))
                    self.assertLess(last(*calls, ("greedy", k), ("near", v))[0], k)


class TheBest(unittest.TestCase):
    def test_no_choice_makes_all_know_less(self):
        for n, calls in drawn_maps(6):
            by_choice = run(*calls, *[("choose", s) for s in range(2 ** n)])[len(calls):]
            best, chosen = run(*calls, ("best",), ("chosen",))[-2:]
            self.assertEqual(best, min(by_choice))
            self.assertEqual(sum(2 ** v for v in chosen[1:]), by_choice.index(min(by_choice)))


class TheNearest(unittest.TestCase):
    def test_it_is_chosen_and_none_is_nearer(self):
        for n, calls in drawn_maps(8):
            model = model_of(calls)
            for s in range(0, 2 ** n, 5):
                chosen, *nearest = run(*calls, ("choose", s), ("chosen",), *[("nearest", v) for v in range(n)])[-n - 1:]
                for v, answer in enumerate(nearest):
                    ways = model.ways(v)
                    reached = [c for c in chosen[1:] if c in ways]
                    if answer == [-33]:
                        self.assertEqual(reached, [])
                    else:
                        self.assertIn(answer[0], reached)
                        self.assertEqual(answer[1], ways[answer[0]])
                        self.assertEqual(answer[1], min(ways[c] for c in reached))

    def test_with_one_more_chosen_nobody_has_more_near_ones(self):
        for n, calls in drawn_maps(5):
            near = [("near", v) for v in range(n)]
            by_choice = {}
            for s in range(2 ** n):
                by_choice[s] = [answer[0] for answer in run(*calls, ("choose", s), *near)[-n:]]
            for s, counts in by_choice.items():
                for more in range(n):
                    for before, behind in zip(counts, by_choice[s | 2 ** more]):
                        self.assertLessEqual(behind, before)


class NothingIsChanged(unittest.TestCase):
    FULL = [("begin", 8)] + [("line", a, b, 40 + a + b) for a, b in FOURTEEN] + [("choose", 34)]

    def test_by_what_is_refused(self):
        refused = [
            (("begin", 0), -22), (("begin", 9), -22), (("begin", LARGEST), -22),
            (("line", 8, 0, 5), -2), (("line", 0, LARGEST, 5), -2), (("line", 0, 0, 5), -22),
            (("line", 0, 1, 0), -22), (("line", 0, 1, 100), -22), (("line", 0, 1, LARGEST), -22),
            (("line", 6, 7, 5), -28), (("cut", 14), -2), (("cut", LARGEST), -2),
            (("choose", 256), -22), (("choose", LARGEST), -22), (("turn", 8), -2), (("turn", LARGEST), -2),
            (("greedy", 0), -22), (("greedy", 9), -22), (("greedy", LARGEST), -22), (("best",), -28),
            (("nearest", 8), -2), (("nearest", LARGEST), -2), (("near", 8), -2), (("near", LARGEST), -2),
        ]
        before = run(*self.FULL, *looks(8))[len(self.FULL):]
        for call, number in refused:
            with self.subTest(call=call):
                behind = run(*self.FULL, call, *looks(8))[len(self.FULL):]
                self.assertEqual(behind, [[number]] + before)

    def test_by_looking(self):
        for n, calls in drawn_maps(8):
            calls = calls + [("turn", n - 1)]
            twice = run(*calls, *looks(n), *looks(n))[len(calls):]
            self.assertEqual(twice[:len(twice) // 2], twice[len(twice) // 2:])

    def test_of_the_choice_by_line_and_cut_and_of_the_lines_by_the_others(self):
        lines = last(*self.FULL, ("lines",))
        for call in (("choose", 3), ("turn", 0), ("greedy", 3)):
            self.assertEqual(last(*self.FULL, call, ("lines",)), lines)
        self.assertEqual(
            last(("begin", 3), ("line", 0, 1, 5), ("best",), ("lines",)), [1, 0, 1, 5])
        for call in (("line", 0, 1, 3), ("cut", 0)):
            self.assertEqual(last(*self.FULL, call, ("chosen",)), [2, 1, 5])


if __name__ == "__main__":
    unittest.main()
