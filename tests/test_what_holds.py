"""What holds, a to f."""

import itertools
import random
import unittest

from tests.helper import CHANGES, FOURTEEN, LARGEST, Model, drawn_call, last, looks, run


def drawn_maps(most):
    """The calls that lay some maps of up to so many places, the same ones each time."""
    drawn = random.Random(3)
    for n in range(1, most + 1):
        for lines in (0, 1, n - 1, n + 2, 14):
            calls = [("begin", n)]
            longest = drawn.choice((1, 3, 99))
            for _ in range(lines if n > 1 else 0):
                a, b = drawn.sample(range(n), 2)
                calls.append(("line", a, b, drawn.randint(1, longest)))
            yield n, calls


def model_of(calls):
    model = Model()
    for call in calls:
        model.call(*call)
    return model


def drawn_lists(most):
    """Drawn lists of calls on up to so many places, any calls but a begin among them."""
    for seed in range(120):
        drawn = random.Random(seed)
        n = seed % most + 1
        longest = drawn.choice((1, 2, 5, 99))
        names = ("line",) * 6 + CHANGES + ("back", "told", "worst")
        yield n, [("begin", n)] + [drawn_call(drawn, n, longest, names) for _ in range(drawn.randint(5, 60))]


class WhatIsTold(unittest.TestCase):
    def told_and_dist(self, n, calls):
        pairs = list(itertools.product(range(n), repeat=2))
        told = run(*calls, *[("told", u, v) for u, v in pairs])[len(calls):]
        dist = run(*calls, *[("dist", u, v) for u, v in pairs])[len(calls):]
        return dict(zip(pairs, told)), dict(zip(pairs, dist))

    def test_no_less_than_the_distance_and_at_most_three_times_it(self):
        for n, calls in drawn_lists(8):
            told, dist = self.told_and_dist(n, calls)
            for pair in told:
                if dist[pair] == [-33]:
                    self.assertEqual(told[pair], [-33], (calls, pair))
                else:
                    self.assertGreaterEqual(told[pair][0], dist[pair][0], (calls, pair))
                    self.assertLessEqual(told[pair][0], 3 * dist[pair][0], (calls, pair))

    def test_near_ones_and_chosen_ones_are_told_rightly_and_alike_from_either_end(self):
        for n, calls in drawn_lists(8):
            told, dist = self.told_and_dist(n, calls)
            chosen, *near = run(*calls, ("chosen",), *[("near", v) for v in range(n)])[len(calls):]
            for u, v in told:
                self.assertEqual(told[u, v], told[v, u], (calls, u, v))
                if v in near[u][1:] or v in chosen[1:]:
                    self.assertEqual(told[u, v], dist[u, v], (calls, u, v))

    def test_no_pair_is_told_worse_than_the_worst(self):
        for n, calls in drawn_lists(8):
            told, dist = self.told_and_dist(n, calls)
            worst = last(*calls, ("worst",))
            pairs = [pair for pair in itertools.combinations(range(n), 2) if told[pair] != [-33]]
            if worst == [-33]:
                self.assertEqual(pairs, [])
                continue
            self.assertEqual(worst[0], 0)
            its = (worst[1], worst[2])
            self.assertIn(its, pairs)
            self.assertEqual(worst[3:], told[its] + dist[its])
            for pair in pairs:
                here, there = told[pair][0] * worst[4], worst[3] * dist[pair][0]
                self.assertTrue(here < there or here == there and its <= pair, (calls, pair))


class ByGreed(unittest.TestCase):
    def test_first_has_a_chosen_one_over_drawn_lists(self):
        for n, calls in drawn_lists(8):
            for k in range(1, 9):
                places = [("first", v, k) for v in range(n)] + [("near", v) for v in range(n)]
                chosen, *answers = run(*calls, ("greedy", k), ("chosen",), *places)[len(calls) + 1:]
                for first in answers[:n]:
                    self.assertTrue(set(first[1:]) & set(chosen[1:]), (calls, k))
                for near in answers[n:]:
                    self.assertLess(near[0], k, (calls, k))

    def test_one_is_among_the_k_nearest_of_each_and_nobody_has_k_near_ones(self):
        for n, calls in drawn_maps(8):
            model = model_of(calls)
            for k in range(1, 9):
                chosen = last(*calls, ("greedy", k), ("chosen",))[1:]
                for v in range(n):
                    self.assertTrue(set(model.first_of(model.ways(v), k)) & set(chosen))
                    self.assertLess(last(*calls, ("greedy", k), ("near", v))[0], k)


class TheBest(unittest.TestCase):
    def test_no_choice_makes_all_know_less(self):
        for n, calls in drawn_maps(6):
            by_choice = run(*calls, *[("choose", s) for s in range(2 ** n)])[len(calls):]
            best, chosen = run(*calls, ("best",), ("chosen",))[-2:]
            self.assertEqual(best, min(by_choice))
            self.assertEqual(sum(2 ** v for v in chosen[1:]), by_choice.index(min(by_choice)))


    def test_leastall_tells_it_and_ifchosen_tells_none_less(self):
        for n, calls in drawn_lists(6):
            by_choice = [answer[0] for answer in run(*calls, *[("ifchosen", s) for s in range(2 ** n)])[len(calls):]]
            least = [min(by_choice), by_choice.index(min(by_choice))]
            leastall, best, state = run(*calls, ("leastall",), ("best",), ("state",))[-3:]
            self.assertEqual(leastall, least)
            self.assertEqual([best[0], state[2]], least)


class WhatAllKnow(unittest.TestCase):
    def test_all_is_what_each_knows_together(self):
        for n, calls in drawn_lists(8):
            everyone, chosen, *each = run(
                *calls, ("all",), ("chosen",), *[("knows", v) for v in range(n)], *[("near", v) for v in range(n)]
            )[len(calls):]
            self.assertEqual(everyone, [sum(answer[0] for answer in each[:n])])
            for knows, near in zip(each[:n], each[n:]):
                self.assertEqual(knows, [near[0] + chosen[0]])


class TheNearest(unittest.TestCase):
    def test_it_is_chosen_and_none_is_nearer(self):
        for n, calls in drawn_maps(8):
            model = model_of(calls)
            for s in range(0, 2 ** n, 5):
                chosen, *nearest = run(*calls, ("choose", s), ("chosen",), *[("nearest", v) for v in range(n)])[-n - 1:]
                for v, answer in enumerate(nearest):
                    ways = model.ways(v)
                    reached = [c for c in chosen[1:] if c in ways]
                    if answer == [-33]:
                        self.assertEqual(reached, [])
                    else:
                        self.assertIn(answer[0], reached)
                        self.assertEqual(answer[1], ways[answer[0]])
                        self.assertEqual(answer[1], min(ways[c] for c in reached))

    def test_with_one_more_chosen_than_a_drawn_list_leaves(self):
        for n, calls in drawn_lists(8):
            near = [("near", v) for v in range(n)]
            chosen, *before = run(*calls, ("chosen",), *near)[len(calls):]
            for more in set(range(n)) - set(chosen[1:]):
                behind = run(*calls, ("turn", more), *near)[len(calls) + 1:]
                for fewer, many in zip(behind, before):
                    self.assertLessEqual(set(fewer[1:]), set(many[1:]), (calls, more))

    def test_with_one_more_chosen_nobody_has_more_near_ones(self):
        for n, calls in drawn_maps(5):
            near = [("near", v) for v in range(n)]
            by_choice = {}
            for s in range(2 ** n):
                by_choice[s] = [answer[0] for answer in run(*calls, ("choose", s), *near)[-n:]]
            for s, counts in by_choice.items():
                for more in range(n):
                    for before, behind in zip(counts, by_choice[s | 2 ** more]):
                        self.assertLessEqual(behind, before)


class NothingIsChanged(unittest.TestCase):
    FULL = [("begin", 8)] + [("line", a, b, 40 + a + b) for a, b in FOURTEEN] + [("choose", 34)]

    def test_by_what_is_refused(self):
        refused = [
            (("begin", 0), -22), (("begin", 9), -22), (("begin", LARGEST), -22),
            (("line", 8, 0, 5), -2), (("line", 0, LARGEST, 5), -2), (("line", 0, 0, 5), -22),
            (("line", 0, 1, 0), -22), (("line", 0, 1, 100), -22), (("line", 0, 1, LARGEST), -22),
            (("line", 6, 7, 5), -28), (("cut", 14), -2), (("cut", LARGEST), -2),
            (("choose", 256), -22), (("choose", LARGEST), -22), (("turn", 8), -2), (("turn", LARGEST), -2),
            (("greedy", 0), -22), (("greedy", 9), -22), (("greedy", LARGEST), -22), (("best",), -28),
            (("nearest", 8), -2), (("nearest", LARGEST), -2), (("near", 8), -2), (("near", LARGEST), -2),
            (("first", 8, 9), -2), (("first", 7, 0), -22), (("first", 7, 9), -22), (("first", 0, LARGEST), -22),
            (("dist", 8, 0), -2), (("dist", 0, LARGEST), -2),
            (("told", 8, 0), -2), (("told", 0, LARGEST), -2),
            (("knows", 8), -2), (("knows", LARGEST), -2), (("ifchosen", 256), -22), (("ifchosen", LARGEST), -22),
            (("leastall",), -28),
        ]
        before = run(*self.FULL, *looks(8))[len(self.FULL):]
        for call, number in refused:
            with self.subTest(call=call):
                behind = run(*self.FULL, call, *looks(8))[len(self.FULL):]
                self.assertEqual(behind, [[number]] + before)

    def test_by_what_is_refused_behind_a_begin_alone(self):
        before = run(("begin", 3), *looks(3))
        refused = ((("back",), -6), (("worst",), -33), (("cut", 0), -2), (("nearest", 1), -33), (("dist", 0, 2), -33),
                   (("told", 2, 0), -33))
        for call, number in refused:
            self.assertEqual(run(("begin", 3), call, call, *looks(3)), before[:1] + [[number]] * 2 + before[1:])

    def test_by_looking(self):
        for n, calls in drawn_maps(8):
            calls = calls + [("turn", n - 1)]
            twice = run(*calls, *looks(n), *looks(n))[len(calls):]
            self.assertEqual(twice[:len(twice) // 2], twice[len(twice) // 2:])

    def test_of_the_choice_by_line_and_cut_and_of_the_lines_by_the_others(self):
        lines = last(*self.FULL, ("lines",))
        for call in (("choose", 3), ("turn", 0), ("greedy", 3)):
            self.assertEqual(last(*self.FULL, call, ("lines",)), lines)
        self.assertEqual(
            last(("begin", 3), ("line", 0, 1, 5), ("best",), ("lines",)), [1, 0, 1, 5])
        for call in (("line", 0, 1, 3), ("cut", 0)):
            self.assertEqual(last(*self.FULL, call, ("chosen",)), [2, 1, 5])


class TakenBack(unittest.TestCase):
    def test_all_is_as_it_was(self):
        # Some of the drawn changes are refused; laid anew without these, all must look alike.
        for seed in range(60):
            drawn = random.Random(seed)
            n = seed % 8 + 1
            calls = [("begin", n)] + [drawn_call(drawn, n, 9, ("line",) * 5 + CHANGES) for _ in range(18)]
            made = [call for call, answer in zip(calls, run(*calls)) if answer[0] >= 0]
            most = min(10, len(made) - 1)
            for times in range(most + 1):
                backs = [("back",)] * times
                got = run(*calls, *backs, *looks(n))[len(calls):]
                want = run(*made[:len(made) - times], *looks(n))[len(made) - times:]
                self.assertEqual(got[:times], [[most - 1 - i] for i in range(times)])
                self.assertEqual(got[times], want[0][:3] + [most - times])
                self.assertEqual(got[times + 1:], want[1:], (seed, times))
            self.assertEqual(last(*calls, *[("back",)] * (most + 1)), [-6])


if __name__ == "__main__":
    unittest.main()
