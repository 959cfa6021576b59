"""Point 2: line, cut, choose, turn, greedy, best, and how much all know then."""

import unittest

from tests.helper import FOURTEEN, FULL, LARGEST, PATH, last, run

# 3 in the middle, 0, 1, 2 and 4 around it
STAR = [("begin", 5), ("line", 0, 3, 2), ("line", 1, 3, 2), ("line", 2, 3, 2), ("line", 3, 4, 2)]


class Line(unittest.TestCase):
    def test_how_much_all_know_with_nobody_chosen(self):
        self.assertEqual(run(*PATH), [[0], [6], [10], [16]])

    def test_how_much_all_know_with_one_chosen(self):
        # 1 then has itself and nothing nearer than 0; each place knows the chosen one, too.
        self.assertEqual(run(("begin", 2), ("turn", 0), ("line", 0, 1, 9)), [[0], [3], [3]])
        self.assertEqual(
            run(("begin", 3), ("turn", 0), ("line", 1, 2, 9), ("line", 0, 1, 9)), [[0], [5], [7], [6]])

    def test_either_place_first(self):
        self.assertEqual(
            run(("begin", 3), ("line", 2, 0, 5), ("lines",)), run(("begin", 3), ("line", 0, 2, 5), ("lines",)))

    def test_lengths_at_the_edges(self):
        for w in (1, 99):
            self.assertEqual(run(("begin", 2), ("line", 0, 1, w), ("lines",)), [[0], [4], [1, 0, 1, w]])

    def test_one_that_joined_them_goes(self):
        self.assertEqual(last(*PATH, ("line", 1, 0, 8), ("lines",)), [3, 1, 2, 1, 2, 3, 1, 0, 1, 8])
        self.assertEqual(last(*PATH, ("line", 0, 1, 1), ("lines",)), [3, 0, 1, 1, 1, 2, 1, 2, 3, 1])

    def test_no_such_place(self):
        for a, b in ((4, 0), (0, 4), (4, 4), (LARGEST, 0), (0, LARGEST), (LARGEST, LARGEST), (4, LARGEST)):
            for w in (0, 1, 100, LARGEST):
                self.assertEqual(last(*PATH, ("line", a, b, w)), [-2])

    def test_the_same_place_or_a_wrong_length(self):
        for a, b, w in ((1, 1, 5), (0, 0, 1), (3, 3, 0), (0, 2, 0), (0, 2, 100), (0, 2, LARGEST), (0, 1, 100)):
            self.assertEqual(last(*PATH, ("line", a, b, w)), [-22])

    def test_fourteen_lines_and_no_more(self):
        self.assertEqual(last(*FULL, ("lines",))[0], 14)
        for w in (1, 99):
            self.assertEqual(last(*FULL, ("line", 6, 7, w)), [-28])

    def test_ahead_of_too_many_the_other_refusals(self):
        self.assertEqual(last(*FULL, ("line", 6, 8, 1)), [-2])
        self.assertEqual(last(*FULL, ("line", 8, 8, 0)), [-2])
        self.assertEqual(last(*FULL, ("line", 6, 6, 1)), [-22])
        self.assertEqual(last(*FULL, ("line", 6, 7, 0)), [-22])
        self.assertEqual(last(*FULL, ("line", 6, 7, 100)), [-22])

    def test_with_fourteen_lines_those_that_are_joined_may_be_joined_anew(self):
        for a, b in FOURTEEN:
            answer, lines = run(*FULL, ("line", b, a, 3), ("lines",))[-2:]
            self.assertEqual(answer, [64])
            self.assertEqual(lines[:4], [14, a, b, 3])

    def test_with_one_of_fourteen_cut_there_is_room(self):
        self.assertEqual(last(*FULL, ("cut", 13), ("line", 6, 7, 1), ("lines",))[:4], [14, 6, 7, 1])


class Cut(unittest.TestCase):
    def test_by_its_number_in_order(self):
        lines = [("begin", 4), ("line", 0, 1, 30), ("line", 1, 2, 20), ("line", 2, 3, 10)]
        self.assertEqual(run(*lines, ("cut", 0), ("lines",))[-2:], [[10], [2, 1, 2, 20, 0, 1, 30]])
        self.assertEqual(run(*lines, ("cut", 1), ("lines",))[-2:], [[8], [2, 2, 3, 10, 0, 1, 30]])
        self.assertEqual(run(*lines, ("cut", 2), ("lines",))[-2:], [[10], [2, 2, 3, 10, 1, 2, 20]])

    def test_behind_a_cut_they_are_numbered_anew(self):
        self.assertEqual(run(*PATH, ("cut", 0), ("cut", 0), ("cut", 0), ("cut", 0), ("lines",))[4:],
                         [[10], [6], [4], [-2], [0]])

    def test_no_such_line(self):
        self.assertEqual(last(("begin", 3), ("cut", 0)), [-2])
        for i in (3, 4, 14, LARGEST):
            self.assertEqual(last(*PATH, ("cut", i)), [-2])

    def test_behind_a_choice(self):
        # With 0 chosen: 0, 1, 3, 3 near ones. Cut off, 2 and 3 have none chosen, and both near.
        self.assertEqual(run(*PATH, ("turn", 0), ("cut", 1))[-2:], [[11], [9]])
        self.assertEqual(
            run(*PATH, ("turn", 0), ("cut", 1), ("chosen",), ("nearest", 1), ("nearest", 2), ("near", 3))[-4:],
            [[1, 0], [0, 1], [-33], [2, 2, 3]])


class Choose(unittest.TestCase):
    def test_how_much_all_know(self):
        self.assertEqual(last(*PATH, ("choose", 0)), [16])
        self.assertEqual(last(*PATH, ("choose", 1)), [11])
        self.assertEqual(last(*PATH, ("choose", 2)), [8])
        self.assertEqual(last(*PATH, ("choose", 9)), [10])
        self.assertEqual(last(*PATH, ("choose", 15)), [16])

    def test_the_old_choice_is_gone(self):
        self.assertEqual(last(*PATH, ("choose", 5), ("choose", 10), ("chosen",)), [2, 1, 3])
        self.assertEqual(last(*PATH, ("choose", 15), ("choose", 0), ("chosen",)), [0])

    def test_the_largest_choice(self):
        for n in range(1, 9):
            self.assertEqual(last(("begin", n), ("choose", 2 ** n - 1)), [n * n])
            self.assertEqual(last(("begin", n), ("choose", 2 ** n)), [-22])

    def test_no_choice(self):
        for s in (16, 17, 31, 256, LARGEST):
            self.assertEqual(run(*PATH, ("choose", 5), ("choose", s), ("chosen",))[-2:], [[-22], [2, 0, 2]])


class Turn(unittest.TestCase):
    def test_chosen_and_not_any_more(self):
        self.assertEqual(
            run(*PATH, ("turn", 1), ("chosen",), ("turn", 3), ("chosen",), ("turn", 1), ("chosen",))[4:],
            [[8], [1, 1], [10], [2, 1, 3], [11], [1, 3]])

    def test_no_such_place(self):
        for v in (4, 8, 32, LARGEST):
            self.assertEqual(run(*PATH, ("turn", 2), ("turn", v), ("chosen",))[-2:], [[-2], [1, 2]])


class Greedy(unittest.TestCase):
    def test_k_of_1_chooses_all(self):
        for n in range(1, 9):
            self.assertEqual(run(("begin", n), ("greedy", 1), ("chosen",))[1:], [[n * n], [n] + list(range(n))])
        self.assertEqual(run(*PATH, ("greedy", 1), ("chosen",))[4:], [[16], [4, 0, 1, 2, 3]])

    def test_the_one_among_the_nearest_of_the_most(self):
        # The 2 nearest: 0 and 3, 1 and 3, 2 and 3, 3 and 0, 4 and 3.
        self.assertEqual(run(*STAR, ("greedy", 2), ("chosen",))[-2:], [[9], [1, 3]])

    def test_of_like_ones_the_least(self):
        # The 2 nearest on the path: 0 1, 1 0, 2 1, 3 2. By 1 three are served; then 2 and 3 are alike.
        self.assertEqual(run(*PATH, ("greedy", 2), ("chosen",))[-2:], [[10], [2, 1, 2]])
        self.assertEqual(last(("begin", 3), ("line", 1, 2, 4), ("greedy", 2), ("chosen",)), [2, 0, 1])

    def test_only_those_that_are_not_served_count(self):
        # Two stars around 0 and 4: behind 0 nothing of its star is asked for any more.
        lines = [("begin", 8)] + [("line", 0, v, v) for v in (1, 2, 3)] + [("line", 4, v, v) for v in (5, 6, 7)]
        self.assertEqual(last(*lines, ("greedy", 2), ("chosen",)), [2, 0, 4])

    def test_of_like_distances_the_lesser_place_is_nearer(self):
        # Were 1 and 2, or 2 and 3, the 2 nearest of 1 and of 2, it would be 0 and 2.
        self.assertEqual(last(*PATH, ("greedy", 2), ("chosen",)), [2, 1, 2])

    def test_k_of_8(self):
        self.assertEqual(run(*PATH, ("greedy", 8), ("chosen",))[-2:], [[11], [1, 0]])
        self.assertEqual(last(*FULL, ("greedy", 8), ("chosen",)), [1, 0])

    def test_one_in_each_piece_at_least(self):
        lines = [("begin", 6), ("line", 4, 5, 1), ("line", 2, 3, 1), ("line", 1, 3, 1)]
        self.assertEqual(last(*lines, ("greedy", 8), ("chosen",)), [3, 0, 1, 4])

    def test_who_was_chosen_does_not_count(self):
        for s in range(16):
            self.assertEqual(run(*PATH, ("choose", s), ("greedy", 2), ("chosen",))[-2:], [[10], [2, 1, 2]])

    def test_out_of_range(self):
        for k in (0, 9, 10, LARGEST):
            self.assertEqual(run(*PATH, ("turn", 3), ("greedy", k), ("chosen",))[-2:], [[-22], [1, 3]])


class Best(unittest.TestCase):
    def test_the_least_that_all_can_know(self):
        self.assertEqual(run(*PATH, ("best",), ("chosen",))[-2:], [[8], [1, 1]])
        self.assertEqual(run(*STAR, ("best",), ("chosen",))[-2:], [[9], [1, 3]])

    def test_of_two_as_good_the_least_number(self):
        # On the path 1 alone and 2 alone are as good; so are 0 alone and 1 alone between two.
        self.assertEqual(last(*PATH, ("choose", 4)), last(*PATH, ("choose", 2)))
        self.assertEqual(run(("begin", 2), ("line", 0, 1, 1), ("best",), ("chosen",))[-2:], [[3], [1, 0]])

    def test_without_lines_it_is_nobody(self):
        for n in range(1, 7):
            self.assertEqual(run(("begin", n), ("choose", 1), ("best",), ("chosen",))[-2:], [[n], [0]])

    def test_six_places_and_no_more(self):
        self.assertEqual(run(("begin", 6), ("turn", 5), ("best",), ("chosen",))[-2:], [[6], [0]])
        for n in (7, 8):
            self.assertEqual(run(("begin", n), ("turn", 5), ("best",), ("chosen",))[-2:], [[-28], [1, 5]])

    def test_who_was_chosen_does_not_count(self):
        for s in range(16):
            self.assertEqual(last(*PATH, ("choose", s), ("best",), ("chosen",)), [1, 1])


class AllKnow(unittest.TestCase):
    def test_chosen_ones_are_known_where_no_way_leads_too(self):
        self.assertEqual(run(("begin", 3), ("turn", 0), ("turn", 1), ("turn", 2)), [[0], [5], [7], [9]])

    def test_the_most(self):
        self.assertEqual(last(*FULL), [64])
        self.assertEqual(last(*FULL, ("choose", 255)), [64])


if __name__ == "__main__":
    unittest.main()
