"""Point 3, of first, dist and told."""

import unittest

from tests.helper import LARGEST, PATH, PIECES, last, run

LONGEST = [("begin", 8)] + [("line", v, v + 1, 99) for v in range(7)]


def between(left, middle, right):
    """0 - 1 - 2 - 3 with lines of these lengths, 0 and 3 chosen."""
    return [("begin", 4), ("line", 0, 1, left), ("line", 1, 2, middle), ("line", 2, 3, right), ("choose", 9)]


class First(unittest.TestCase):
    def test_by_distance_of_like_ones_by_number(self):
        self.assertEqual(last(*PATH, ("first", 1, 4)), [4, 1, 0, 2, 3])
        self.assertEqual(last(*PATH, ("first", 3, 4)), [4, 3, 2, 1, 0])
        self.assertEqual(
            last(("begin", 4), ("line", 2, 3, 5), ("line", 2, 1, 5), ("line", 2, 0, 6), ("first", 2, 4)),
            [4, 2, 1, 3, 0])

    def test_itself_comes_first(self):
        for v in range(4):
            self.assertEqual(last(*PATH, ("first", v, 1)), [1, v])

    def test_k_in_all(self):
        self.assertEqual(
            run(*LONGEST, *[("first", 0, k) for k in range(1, 9)])[8:],
            [[k] + list(range(k)) for k in range(1, 9)])
        self.assertEqual(last(*PATH, ("first", 1, 2)), [2, 1, 0])

    def test_fewer_if_there_are_no_more(self):
        self.assertEqual(last(*PATH, ("first", 0, 8)), [4, 0, 1, 2, 3])
        self.assertEqual(last(*PIECES, ("first", 4, 8)), [2, 4, 3])
        self.assertEqual(last(*PIECES, ("first", 2, 5)), [3, 2, 1, 0])
        self.assertEqual(last(("begin", 8), ("first", 7, 8)), [1, 7])
        self.assertEqual(last(("begin", 1), ("first", 0, 8)), [1, 0])

    def test_who_is_chosen_does_not_count(self):
        for s in range(16):
            self.assertEqual(last(*PATH, ("choose", s), ("first", 2, 3)), [3, 2, 1, 3])

    def test_behind_a_cut(self):
        self.assertEqual(last(*PATH, ("cut", 1), ("first", 1, 4)), [2, 1, 0])

    def test_no_such_place_whatever_k_is(self):
        for v in (4, 8, LARGEST):
            for k in (0, 1, 8, 9, LARGEST):
                self.assertEqual(last(*PATH, ("first", v, k)), [-2])

    def test_out_of_range(self):
        for k in (0, 9, 10, LARGEST):
            self.assertEqual(last(*PATH, ("first", 3, k)), [-22])


class Dist(unittest.TestCase):
    def test_from_itself(self):
        for v in range(4):
            self.assertEqual(last(*PATH, ("dist", v, v)), [0])
            self.assertEqual(last(("begin", 4), ("turn", 1), ("dist", v, v)), [0])

    def test_along_lines_from_either_end(self):
        for u in range(4):
            for v in range(4):
                self.assertEqual(last(*PATH, ("dist", u, v)), [abs(u - v)])

    def test_a_shortest_way(self):
        around = [("begin", 4), ("line", 0, 1, 20), ("line", 1, 2, 20), ("line", 2, 3, 20)]
        self.assertEqual(last(*around, ("line", 0, 3, 99), ("dist", 3, 0)), [60])
        self.assertEqual(last(*around, ("line", 0, 3, 61), ("dist", 0, 3)), [60])
        self.assertEqual(last(*around, ("line", 0, 3, 59), ("dist", 0, 3)), [59])

    def test_by_way_of_greater_and_of_lesser_numbers(self):
        # 1 - 7 - 0 - 6 - 2
        ways = [("begin", 8), ("line", 1, 7, 3), ("line", 7, 0, 4), ("line", 0, 6, 5), ("line", 6, 2, 6)]
        self.assertEqual(last(*ways, ("dist", 1, 2)), [18])
        self.assertEqual(last(*ways, ("dist", 2, 7)), [15])

    def test_the_longest_way(self):
        self.assertEqual(last(*LONGEST, ("dist", 7, 0)), [693])

    def test_no_way_leads_there(self):
        self.assertEqual(last(*PIECES, ("dist", 0, 3)), [-33])
        self.assertEqual(last(*PIECES, ("dist", 4, 2)), [-33])
        self.assertEqual(last(("begin", 2), ("choose", 3), ("dist", 0, 1)), [-33])

    def test_behind_a_cut_and_a_line_anew(self):
        self.assertEqual(
            run(*PATH, ("line", 0, 3, 2), ("cut", 0), ("dist", 0, 1), ("line", 3, 0, 50), ("dist", 1, 0),
                ("cut", 2), ("dist", 0, 1))[6:],
            [[4], [16], [52], [10], [-33]])

    def test_no_such_place(self):
        for u, v in ((4, 0), (0, 4), (4, 4), (8, 8), (LARGEST, 0), (0, LARGEST), (LARGEST, LARGEST)):
            self.assertEqual(last(*PATH, ("dist", u, v)), [-2])


class Told(unittest.TestCase):
    def test_nobody_chosen_it_is_the_distance(self):
        for u in range(4):
            for v in range(4):
                self.assertEqual(last(*PATH, ("told", u, v)), [abs(u - v)])

    def test_all_chosen_it_is_the_distance(self):
        for u in range(4):
            for v in range(4):
                self.assertEqual(last(*PATH, ("choose", 15), ("told", u, v)), [abs(u - v)])

    def test_of_one_that_is_chosen_it_is_the_distance(self):
        for u in range(4):
            self.assertEqual(last(*PATH, ("choose", 4), ("told", u, 2)), [abs(u - 2)])
            self.assertEqual(last(*PATH, ("choose", 6), ("told", 2, u)), [abs(u - 2)])

    def test_of_one_and_itself(self):
        for s in range(16):
            for v in range(4):
                self.assertEqual(last(*PATH, ("choose", s), ("told", v, v)), [0])

    def test_one_near_the_other_is_enough(self):
        # With 0 chosen 1 has itself near alone, but is near 3.
        self.assertEqual(
            run(*PATH, ("turn", 0), ("near", 1), ("near", 3), ("told", 1, 3), ("told", 3, 1))[5:],
            [[1, 1], [3, 1, 2, 3], [2], [2]])

    def test_by_way_of_the_nearest_chosen_one(self):
        # 0, 2 and 3 lie around 1, which is chosen; the line from 0 to 2 is shorter than by way of 1.
        around = [("begin", 4), ("line", 0, 1, 3), ("line", 1, 2, 4), ("line", 1, 3, 5), ("line", 0, 2, 6)]
        self.assertEqual(last(*around, ("choose", 2), ("told", 0, 2)), [7])
        self.assertEqual(last(*around, ("choose", 2), ("told", 2, 0)), [7])
        self.assertEqual(last(*around, ("choose", 2), ("told", 3, 0)), [8])

    def test_the_lesser_of_both(self):
        # By way of 0 it's 1 and 5, by way of 3 it's 3 and 7; then the other way round.
        for u, v in ((1, 2), (2, 1)):
            self.assertEqual(last(*between(1, 4, 3), ("told", u, v)), [6])
            self.assertEqual(last(*between(3, 4, 1), ("told", u, v)), [6])

    def test_three_times_just(self):
        for w in (1, 7, 99):
            self.assertEqual(run(*between(w, w, w), ("told", 1, 2), ("told", 2, 1))[5:], [[3 * w], [3 * w]])

    def test_one_as_far_as_the_nearest_chosen_one_is_not_near(self):
        self.assertEqual(last(*between(4, 3, 4), ("told", 1, 2)), [3])
        self.assertEqual(last(*between(4, 4, 4), ("told", 1, 2)), [12])
        self.assertEqual(last(*between(4, 5, 4), ("told", 1, 2)), [13])

    def test_of_two_chosen_ones_as_far_that_of_the_least_number(self):
        # 0 has 2 and 3 both 5 away; 1, 8 away from 0, has 4 nearer, by which it's 2 and 10.
        away = [("begin", 5), ("line", 0, 2, 5), ("line", 0, 3, 5), ("line", 1, 4, 2), ("choose", 28)]
        self.assertEqual(run(*away, ("line", 1, 3, 3), ("told", 0, 1), ("told", 1, 0))[6:], [[12], [12]])
        self.assertEqual(run(*away, ("line", 1, 2, 3), ("told", 0, 1), ("told", 1, 0))[6:], [[8], [8]])

    def test_far_apart(self):
        # 2 places from 0 on the one side, 5 on the other.
        self.assertEqual(last(*LONGEST, ("choose", 129), ("told", 2, 5)), [2 * 99 + 5 * 99])
        self.assertEqual(last(*LONGEST, ("choose", 129), ("told", 0, 7)), [693])
        self.assertEqual(last(*LONGEST, ("choose", 129), ("told", 3, 4)), [99])

    def test_a_piece_without_a_chosen_one(self):
        self.assertEqual(
            run(*PIECES, ("turn", 4), ("told", 0, 2), ("told", 0, 1), ("told", 3, 4))[5:], [[8], [4], [9]])

    def test_nothing_is_told_where_no_way_leads(self):
        for s in range(32):
            for u, v in ((0, 3), (3, 0), (2, 4), (4, 1)):
                self.assertEqual(last(*PIECES, ("choose", s), ("told", u, v)), [-33])

    def test_a_line_cut_behind_a_choice(self):
        # With no 0 in reach 1 has 3 as its nearest, 8 away, and so 2 near.
        self.assertEqual(
            run(*between(4, 4, 4), ("told", 1, 2), ("cut", 0), ("told", 1, 2), ("cut", 0), ("told", 1, 2))[5:],
            [[12], [11], [4], [10], [-33]])

    def test_no_such_place(self):
        for u, v in ((4, 0), (0, 4), (4, 4), (8, 8), (LARGEST, 0), (0, LARGEST), (LARGEST, LARGEST)):
            self.assertEqual(last(*PATH, ("told", u, v)), [-2])
            self.assertEqual(last(("begin", 4), ("choose", 5), ("told", u, v)), [-2])


if __name__ == "__main__":
    unittest.main()
