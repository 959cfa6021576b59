"""Point 4: knows, all, ifchosen, leastall and worst."""

import unittest

from tests.helper import FULL, LARGEST, PATH, PIECES, last, run


def known(*calls):
    """What each of the places knows behind these calls."""
    count = last(*calls, ("state",))[0]
    return [answer[0] for answer in run(*calls, *[("knows", v) for v in range(count)])[len(calls):]]


def chain(places, end, middle):
    """Lines that lay four places in a row: one of length middle between two of length end."""
    a, b, c, d = places
    return [("line", c, d, end), ("line", b, c, middle), ("line", a, b, end)]


class Knows(unittest.TestCase):
    def test_nobody_chosen(self):
        self.assertEqual(known(("begin", 3)), [1, 1, 1])
        self.assertEqual(known(*PATH), [4, 4, 4, 4])
        self.assertEqual(known(*PIECES), [3, 3, 3, 2, 2])

    def test_all_chosen(self):
        self.assertEqual(known(*PIECES, ("choose", 31)), [5, 5, 5, 5, 5])
        self.assertEqual(known(("begin", 1), ("turn", 0)), [1])

    def test_as_many_as_are_near_and_as_many_as_are_chosen(self):
        self.assertEqual(known(*PATH, ("turn", 0)), [1, 2, 4, 4])
        self.assertEqual(known(*PATH, ("choose", 9)), [2, 3, 3, 2])

    def test_one_as_far_as_the_nearest_chosen_one_is_not_near(self):
        self.assertEqual(known(*PIECES, ("turn", 0)), [1, 2, 3, 3, 3])
        self.assertEqual(known(*PIECES, ("turn", 0), ("line", 1, 2, 3)), [1, 3, 3, 3, 3])

    def test_a_piece_without_a_chosen_one_knows_the_chosen_ones_too(self):
        self.assertEqual(known(*PIECES, ("choose", 24)), [5, 5, 5, 2, 2])

    def test_a_line_cut_behind_a_choice(self):
        self.assertEqual(known(*PATH, ("turn", 0), ("cut", 1)), [1, 2, 3, 3])

    def test_no_such_place(self):
        for v in (4, 5, 8, LARGEST):
            self.assertEqual(last(*PATH, ("turn", 0), ("knows", v)), [-2])


class AllKnow(unittest.TestCase):
    def test_together(self):
        self.assertEqual(last(*PATH, ("all",)), [16])
        self.assertEqual(last(*PATH, ("turn", 0), ("all",)), [11])
        self.assertEqual(last(*PATH, ("turn", 0), ("cut", 1), ("all",)), [9])
        self.assertEqual(last(*PIECES, ("choose", 24), ("all",)), [19])

    def test_ahead_of_any_change(self):
        for n in range(1, 9):
            self.assertEqual(last(("begin", n), ("all",)), [n])

    def test_the_most(self):
        self.assertEqual(last(*FULL, ("all",)), [64])
        self.assertEqual(last(*FULL, ("choose", 255), ("all",)), [64])

    def test_as_a_change_told_it(self):
        for call in (("line", 0, 2, 1), ("cut", 0), ("choose", 5), ("turn", 3), ("greedy", 2), ("best",)):
            told, again = run(*PATH, ("turn", 0), call, ("all",))[-2:]
            self.assertEqual(told, again)


class IfChosen(unittest.TestCase):
    def test_as_if_they_were_chosen(self):
        self.assertEqual(
            run(*PATH, *[("ifchosen", s) for s in (0, 1, 2, 9, 15)])[4:], [[16], [11], [8], [10], [16]])

    def test_every_choice_as_choose_tells_it(self):
        for lines in (PATH, PIECES):
            count = lines[0][1]
            for s in range(2 ** count):
                asked, told = run(*lines, ("turn", 2), ("ifchosen", s), ("choose", s))[-2:]
                self.assertEqual(asked, told)

    def test_they_are_not_chosen(self):
        self.assertEqual(
            run(*PATH, ("turn", 0), ("ifchosen", 6), ("chosen",), ("all",), ("state",))[5:],
            [[10], [1, 0], [11], [4, 3, 1, 4]])

    def test_the_largest_choice(self):
        for n in range(1, 9):
            self.assertEqual(last(("begin", n), ("ifchosen", 2 ** n - 1)), [n * n])
            self.assertEqual(last(("begin", n), ("ifchosen", 2 ** n)), [-22])

    def test_no_choice(self):
        for s in (16, 17, 31, 256, LARGEST):
            self.assertEqual(last(*PATH, ("ifchosen", s)), [-22])


class LeastAll(unittest.TestCase):
    def test_by_the_best_choice_and_it(self):
        self.assertEqual(last(("begin", 3), ("line", 0, 1, 1), ("line", 1, 2, 1), ("leastall",)), [5, 2])

    def test_of_two_as_good_the_least_number(self):
        self.assertEqual(run(*PATH, ("ifchosen", 2), ("ifchosen", 4), ("leastall",))[4:], [[8], [8], [8, 2]])
        self.assertEqual(last(("begin", 2), ("line", 0, 1, 1), ("leastall",)), [3, 1])

    def test_without_lines_it_is_nobody(self):
        for n in range(1, 7):
            self.assertEqual(last(("begin", n), ("choose", 1), ("leastall",)), [n, 0])

    def test_it_is_not_taken(self):
        self.assertEqual(
            run(*PATH, ("choose", 9), ("leastall",), ("chosen",), ("all",), ("state",))[5:],
            [[8, 2], [2, 0, 3], [10], [4, 3, 9, 4]])

    def test_who_is_chosen_does_not_count(self):
        for s in range(16):
            self.assertEqual(last(*PATH, ("choose", s), ("leastall",)), [8, 2])

    def test_behind_a_cut(self):
        self.assertEqual(last(*PATH, ("cut", 2), ("leastall",)), [7, 2])

    def test_six_places_and_no_more(self):
        self.assertEqual(last(("begin", 6), ("leastall",)), [6, 0])
        for n in (7, 8):
            self.assertEqual(last(("begin", n), ("leastall",)), [-28])


class Worst(unittest.TestCase):
    def test_one_place_alone(self):
        self.assertEqual(last(("begin", 1), ("worst",)), [-33])
        self.assertEqual(last(("begin", 1), ("turn", 0), ("worst",)), [-33])

    def test_no_pair_of_which_anything_is_told(self):
        for n in range(2, 9):
            self.assertEqual(last(("begin", n), ("worst",)), [-33])
            self.assertEqual(last(("begin", n), ("choose", 2 ** n - 1), ("worst",)), [-33])

    def test_a_pair_of_which_nothing_is_told_does_not_count(self):
        self.assertEqual(last(("begin", 3), ("line", 2, 1, 7), ("worst",)), [0, 1, 2, 7, 7])
        self.assertEqual(last(("begin", 3), ("choose", 7), ("line", 2, 1, 7), ("worst",)), [0, 1, 2, 7, 7])

    def test_all_told_rightly_it_is_the_first(self):
        self.assertEqual(last(*PATH, ("worst",)), [0, 0, 1, 1, 1])
        self.assertEqual(last(*PATH, ("choose", 15), ("worst",)), [0, 0, 1, 1, 1])
        self.assertEqual(last(("begin", 3), ("line", 0, 2, 5), ("line", 1, 2, 3), ("worst",)), [0, 0, 1, 8, 8])

    def test_three_times_just(self):
        self.assertEqual(last(*PATH, ("choose", 9), ("worst",)), [0, 1, 2, 3, 1])
        self.assertEqual(last(("begin", 4), *chain((0, 3, 1, 2), 99, 99), ("choose", 5), ("worst",)),
                         [0, 1, 3, 297, 99])

    def test_two_told_as_badly_by_the_lesser_place(self):
        # The two in the middle of each row are told three times as far.
        rows = chain((2, 1, 3, 6), 1, 1) + chain((4, 0, 7, 5), 1, 1)
        self.assertEqual(last(("begin", 8), *rows, ("choose", 116), ("worst",)), [0, 0, 7, 3, 1])

    def test_two_told_as_badly_by_the_other_place_then(self):
        # Around 0, all of length 1: 3 chosen; 1 with 4 behind it and 2 with 5, these chosen too.
        around = [("line", 2, 5, 1), ("line", 0, 2, 1), ("line", 1, 4, 1), ("line", 0, 1, 1), ("line", 0, 3, 1)]
        self.assertEqual(
            run(("begin", 6), *around, ("choose", 56), ("told", 0, 1), ("told", 0, 2), ("worst",))[-3:],
            [[3], [3], [0, 0, 1, 3, 1]])

    def test_as_badly_whatever_the_lengths(self):
        low, high = (0, 1, 2, 3), (4, 5, 6, 7)
        for here, there in ((1, 33), (33, 1), (2, 3)):
            rows = chain(low, here, here) + chain(high, there, there)
            self.assertEqual(
                last(("begin", 8), *rows, ("choose", 153), ("worst",)), [0, 1, 2, 3 * here, here])

    def test_held_against_the_distance_not_by_the_difference(self):
        rows = chain((0, 1, 2, 3), 10, 30) + chain((4, 5, 6, 7), 1, 1)
        self.assertEqual(
            run(("begin", 8), *rows, ("choose", 153), ("told", 1, 2), ("worst",))[-2:], [[50], [0, 5, 6, 3, 1]])

    def test_held_against_the_distance_exactly(self):
        # 6 for 4 and 5 for 3; then 103 for 99 and 102 for 98.
        rows = chain((0, 1, 2, 3), 1, 4) + chain((4, 5, 6, 7), 1, 3)
        self.assertEqual(last(("begin", 8), *rows, ("choose", 153), ("worst",)), [0, 5, 6, 5, 3])
        rows = chain((0, 1, 2, 3), 2, 99) + chain((4, 5, 6, 7), 2, 98)
        self.assertEqual(last(("begin", 8), *rows, ("choose", 153), ("worst",)), [0, 5, 6, 102, 98])

    def test_a_line_cut_behind_a_choice(self):
        self.assertEqual(
            run(*PATH, ("choose", 9), ("worst",), ("cut", 0), ("worst",), ("cut", 0), ("worst",), ("cut", 0),
                ("worst",))[5::2],
            [[0, 1, 2, 3, 1], [0, 1, 2, 1, 1], [0, 2, 3, 1, 1], [-33]])


if __name__ == "__main__":
    unittest.main()
