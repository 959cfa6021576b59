"""Point 1, of begin, lines and chosen; and what comes ahead of a begin."""

import unittest

from tests.helper import LARGEST, WIDTHS, last, looks, run

OTHERS = [name for name in WIDTHS if name != "begin"]


class AheadOfBegin(unittest.TestCase):
    def test_every_other_call_answers_minus_11(self):
        for name in OTHERS:
            for value in (0, 1, 8, 9, LARGEST):
                with self.subTest(name=name, value=value):
                    call = (name,) + (value,) * WIDTHS[name]
                    self.assertEqual(run(call), [[-11]])

    def test_every_other_call_answers_minus_11_behind_a_refused_begin(self):
        for name in OTHERS:
            for n in (0, 9, LARGEST):
                with self.subTest(name=name, n=n):
                    call = (name,) + (LARGEST,) * WIDTHS[name]
                    self.assertEqual(run(("begin", n), call), [[-22], [-11]])

    def test_what_came_too_early_left_nothing(self):
        self.assertEqual(
            run(("line", 0, 1, 5), ("turn", 0), ("begin", 2), ("lines",), ("chosen",), ("line", 0, 1, 5)),
            [[-11], [-11], [0], [0], [0], [4]])

    def test_all_calls_of_one_list_are_read_to_their_end(self):
        calls = [(name,) + tuple(range(WIDTHS[name])) for name in OTHERS]
        self.assertEqual(run(*calls, ("begin", 1), ("chosen",)), [[-11]] * 20 + [[0], [0]])


class Begin(unittest.TestCase):
    def test_one_to_eight_places(self):
        for n in range(1, 9):
            self.assertEqual(
                run(("begin", n), ("lines",), ("chosen",), ("near", n - 1), ("near", n)),
                [[0], [0], [0], [1, n - 1], [-2]])

    def test_out_of_range(self):
        for n in (0, 9, 10, 256, LARGEST):
            self.assertEqual(run(("begin", n)), [[-22]])

    def test_a_second_begin_makes_all_new(self):
        ahead = [("begin", 4), ("line", 0, 3, 7), ("choose", 9)]
        self.assertEqual(
            run(*ahead, ("begin", 3), *looks(3), ("near", 3))[3:],
            run(("begin", 3), *looks(3), ("near", 3)))
        self.assertEqual(last(*ahead, ("begin", 8), ("near", 7)), [1, 7])

    def test_a_second_begin_of_as_many_makes_all_new(self):
        self.assertEqual(
            run(("begin", 2), ("line", 0, 1, 7), ("choose", 3), ("begin", 2), ("lines",), ("chosen",))[3:],
            [[0], [0], [0]])

    def test_a_refused_second_begin_changes_nothing(self):
        ahead = [("begin", 4), ("line", 0, 3, 7), ("choose", 9)]
        for n in (0, 9, LARGEST):
            self.assertEqual(
                run(*ahead, ("begin", n), *looks(4), ("near", 4))[3:],
                [[-22]] + run(*ahead, *looks(4), ("near", 4))[3:])


class Lines(unittest.TestCase):
    def test_none(self):
        self.assertEqual(last(("begin", 8), ("lines",)), [0])

    def test_the_lesser_place_is_told_first(self):
        self.assertEqual(last(("begin", 8), ("line", 6, 2, 40), ("lines",)), [1, 2, 6, 40])

    def test_in_order_by_length(self):
        self.assertEqual(
            last(("begin", 4), ("line", 0, 1, 99), ("line", 1, 2, 10), ("line", 2, 3, 9), ("lines",)),
            [3, 2, 3, 9, 1, 2, 10, 0, 1, 99])

    def test_of_like_lengths_by_the_lesser_place_then_by_the_other(self):
        self.assertEqual(
            last(("begin", 5), ("line", 4, 1, 6), ("line", 3, 2, 6), ("line", 2, 1, 6), ("line", 4, 0, 6),
                 ("line", 3, 4, 5), ("lines",)),
            [5, 3, 4, 5, 0, 4, 6, 1, 2, 6, 1, 4, 6, 2, 3, 6])


class Chosen(unittest.TestCase):
    def test_nobody(self):
        self.assertEqual(last(("begin", 8), ("chosen",)), [0])

    def test_place_v_counts_two_to_the_power_of_v(self):
        for v in range(8):
            self.assertEqual(last(("begin", 8), ("choose", 2 ** v), ("chosen",)), [1, v])

    def test_rising(self):
        self.assertEqual(last(("begin", 8), ("turn", 7), ("turn", 0), ("turn", 3), ("chosen",)), [3, 0, 3, 7])

    def test_all(self):
        self.assertEqual(last(("begin", 8), ("choose", 255), ("chosen",)), [8, 0, 1, 2, 3, 4, 5, 6, 7])


if __name__ == "__main__":
    unittest.main()
