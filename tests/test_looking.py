"""Point 3, of nearest and near."""

import unittest

from tests.helper import LARGEST, PATH, PIECES, last, run


class Nearest(unittest.TestCase):
    def test_the_nearest_and_how_far(self):
        self.assertEqual(last(*PATH, ("choose", 9), ("nearest", 1)), [0, 1])
        self.assertEqual(last(*PATH, ("choose", 9), ("nearest", 2)), [3, 1])
        self.assertEqual(last(*PATH, ("choose", 8), ("nearest", 0)), [3, 3])

    def test_a_chosen_one_has_itself(self):
        for v in range(4):
            self.assertEqual(last(*PATH, ("choose", 15), ("nearest", v)), [v, 0])

    def test_of_two_as_far_the_least_number(self):
        self.assertEqual(last(*PIECES, ("choose", 5), ("nearest", 1)), [0, 4])
        self.assertEqual(
            last(("begin", 3), ("line", 0, 2, 7), ("line", 0, 1, 7), ("choose", 6), ("nearest", 0)), [1, 7])

    def test_the_nearer_of_a_greater_number(self):
        self.assertEqual(
            last(("begin", 3), ("line", 0, 2, 6), ("line", 0, 1, 7), ("choose", 6), ("nearest", 0)), [2, 6])

    def test_a_shorter_way_around(self):
        around = [("begin", 4), ("line", 0, 3, 99), ("line", 0, 1, 20), ("line", 1, 2, 20), ("line", 2, 3, 20)]
        self.assertEqual(last(*around, ("turn", 3), ("nearest", 0)), [3, 60])
        self.assertEqual(last(*around, ("turn", 3), ("line", 0, 3, 59), ("nearest", 0)), [3, 59])

    def test_the_longest_way(self):
        lines = [("line", v, v + 1, 99) for v in range(7)]
        self.assertEqual(last(("begin", 8), *lines, ("turn", 7), ("nearest", 0)), [7, 693])

    def test_none(self):
        for v in range(4):
            self.assertEqual(last(*PATH, ("nearest", v)), [-33])

    def test_none_in_a_piece_without_a_chosen_one(self):
        self.assertEqual(
            run(*PIECES, ("choose", 1), *[("nearest", v) for v in range(5)])[5:],
            [[0, 0], [0, 4], [0, 8], [-33], [-33]])

    def test_none_behind_a_cut(self):
        self.assertEqual(run(*PIECES, ("choose", 1), ("cut", 0), ("nearest", 1))[-2:], [[13], [-33]])

    def test_no_such_place(self):
        for v in (4, 5, 8, LARGEST):
            self.assertEqual(last(*PATH, ("nearest", v)), [-2])
            self.assertEqual(last(*PATH, ("choose", 15), ("nearest", v)), [-2])


class Near(unittest.TestCase):
    def test_nobody_chosen(self):
        self.assertEqual(
            run(*PIECES, *[("near", v) for v in range(5)])[4:],
            [[3, 0, 1, 2], [3, 0, 1, 2], [3, 0, 1, 2], [2, 3, 4], [2, 3, 4]])

    def test_all_chosen(self):
        for v in range(5):
            self.assertEqual(last(*PIECES, ("choose", 31), ("near", v)), [0])

    def test_a_chosen_one_has_nobody_near_not_even_itself(self):
        self.assertEqual(last(*PATH, ("turn", 1), ("near", 1)), [0])
        self.assertEqual(last(("begin", 1), ("turn", 0), ("near", 0)), [0])

    def test_one_that_is_not_chosen_has_itself(self):
        self.assertEqual(last(("begin", 1), ("near", 0)), [1, 0])
        self.assertEqual(last(*PATH, ("choose", 13), ("near", 1)), [1, 1])

    def test_one_as_far_as_the_nearest_chosen_one_is_not_near(self):
        self.assertEqual(last(*PIECES, ("turn", 0), ("near", 1)), [1, 1])
        self.assertEqual(last(*PIECES, ("turn", 0), ("line", 1, 2, 3), ("near", 1)), [2, 1, 2])
        self.assertEqual(last(*PIECES, ("turn", 0), ("line", 1, 2, 5), ("near", 1)), [1, 1])

    def test_rising_not_by_distance(self):
        self.assertEqual(last(*PATH, ("turn", 0), ("near", 3)), [3, 1, 2, 3])
        self.assertEqual(last(*PATH, ("turn", 0), ("near", 2)), [3, 1, 2, 3])

    def test_a_piece_without_a_chosen_one(self):
        self.assertEqual(
            run(*PIECES, ("turn", 4), ("near", 0), ("near", 3), ("near", 4))[5:], [[3, 0, 1, 2], [1, 3], [0]])

    def test_a_line_cut_behind_a_choice(self):
        self.assertEqual(
            run(*PATH, ("turn", 0), ("near", 2), ("cut", 0), ("near", 2), ("cut", 0), ("near", 2))[5:],
            [[3, 1, 2, 3], [13], [3, 1, 2, 3], [9], [2, 2, 3]])

    def test_no_such_place(self):
        for v in (4, 5, 8, LARGEST):
            self.assertEqual(last(*PATH, ("near", v)), [-2])


if __name__ == "__main__":
    unittest.main()
