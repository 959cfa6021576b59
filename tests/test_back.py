"""Point 1, of back and state, and which changes can be taken back."""

import unittest

from tests.helper import LARGEST, last, looks, run

# 0 -3- 1 -2- 2 -1- 3, 0 and 2 chosen: four changes
SOME = [("begin", 4), ("line", 0, 1, 3), ("line", 1, 2, 2), ("line", 2, 3, 1), ("choose", 5)]
ONE_OF_EACH = (("line", 0, 3, 7), ("cut", 1), ("choose", 10), ("turn", 1), ("greedy", 1), ("best",))
REFUSED = (
    ("begin", 0), ("begin", 9), ("begin", LARGEST), ("line", 4, 0, 5), ("line", 0, 0, 5), ("line", 0, 1, 0),
    ("line", 0, 1, 100), ("cut", 3), ("choose", 16), ("turn", 4), ("greedy", 0), ("greedy", 9), ("knows", 4),
    ("first", 0, 0), ("dist", 0, LARGEST), ("told", 4, 0), ("ifchosen", 16),
)
BACK = ("back",)
STATE = ("state",)


def turns(count):
    """So many changes on 8 places, each of which leaves another choice."""
    return [("choose", s) for s in range(1, count + 1)]


class State(unittest.TestCase):
    def test_behind_a_begin(self):
        for n in range(1, 9):
            self.assertEqual(last(("begin", n), STATE), [n, 0, 0, 0])

    def test_places_lines_choice_and_changes(self):
        self.assertEqual(last(*SOME, STATE), [4, 3, 5, 4])
        self.assertEqual(last(*SOME, ("cut", 0), STATE), [4, 2, 5, 5])
        self.assertEqual(last(*SOME, ("turn", 3), STATE), [4, 3, 13, 5])
        self.assertEqual(last(("begin", 8), ("choose", 255), STATE), [8, 0, 255, 1])

    def test_no_more_than_ten_changes(self):
        for count in range(1, 15):
            self.assertEqual(last(("begin", 8), *turns(count), STATE), [8, 0, count, min(count, 10)])


class Back(unittest.TestCase):
    def test_no_change_to_take_back(self):
        self.assertEqual(run(("begin", 4), BACK, BACK, *looks(4)), [[0], [-6], [-6]] + run(("begin", 4), *looks(4))[1:])

    def test_each_change_taken_back(self):
        before = run(*SOME, *looks(4))[5:]
        for call in ONE_OF_EACH:
            with self.subTest(call=call):
                shown = run(*SOME, call, *looks(4))[6:]
                self.assertNotEqual(shown[1:], before[1:])
                self.assertEqual(run(*SOME, call, BACK, *looks(4))[6:], [[4]] + before)

    def test_a_line_in_the_place_of_another_taken_back(self):
        self.assertEqual(
            run(*SOME, ("line", 1, 0, 9), ("lines",), BACK, ("lines",))[6:],
            [[3, 2, 3, 1, 1, 2, 2, 0, 1, 9], [4], [3, 2, 3, 1, 1, 2, 2, 0, 1, 3]])

    def test_a_change_that_leaves_all_alike_is_one(self):
        for call in (("line", 0, 1, 3), ("choose", 5)):
            self.assertEqual(run(*SOME, call, STATE, BACK, STATE)[6:], [[4, 3, 5, 5], [4], [4, 3, 5, 4]])
        self.assertEqual(
            run(*SOME, ("best",), ("best",), STATE, BACK, STATE, BACK, STATE)[7:],
            [[4, 3, 4, 6], [5], [4, 3, 4, 5], [4], [4, 3, 5, 4]])
        self.assertEqual(
            run(*SOME, ("greedy", 1), ("greedy", 1), STATE, BACK, STATE)[7:], [[4, 3, 15, 6], [5], [4, 3, 15, 5]])

    def test_one_behind_another_to_the_first(self):
        self.assertEqual(
            run(*SOME, BACK, STATE, BACK, STATE, BACK, ("lines",), BACK, STATE, BACK, STATE)[5:],
            [[3], [4, 3, 0, 3], [2], [4, 2, 0, 2], [1], [1, 0, 1, 3], [0], [4, 0, 0, 0], [-6], [4, 0, 0, 0]])

    def test_all_six_in_a_row_taken_back(self):
        calls = SOME + list(ONE_OF_EACH)
        for times in range(1, 7):
            got = run(*calls, *[BACK] * times, *looks(4))[len(calls) + times:]
            rest = calls[:len(calls) - times]
            self.assertEqual(got, run(*rest, *looks(4))[len(rest):])


class TheLastTen(unittest.TestCase):
    def test_ten_can_be_taken_back(self):
        calls = [("begin", 8)] + turns(10)
        self.assertEqual(
            run(*calls, *[BACK] * 11, STATE)[11:], [[count] for count in range(9, -1, -1)] + [[-6], [8, 0, 0, 0]])

    def test_an_eleventh_is_not_there_any_more(self):
        for count in (11, 12, 25):
            calls = [("begin", 8)] + turns(count)
            self.assertEqual(
                run(*calls, *[BACK] * 11, STATE)[count + 1:],
                [[left] for left in range(9, -1, -1)] + [[-6], [8, 0, count - 10, 0]])

    def test_the_state_meanwhile(self):
        shown = run(("begin", 8), *turns(13), *[BACK, STATE] * 10)[14:]
        self.assertEqual(shown[0::2], [[left] for left in range(9, -1, -1)])
        self.assertEqual(shown[1::2], [[8, 0, 3 + left, left] for left in range(9, -1, -1)])

    def test_lines_too(self):
        calls = [("begin", 2)] + [("line", 0, 1, w) for w in range(1, 13)]
        self.assertEqual(run(*calls, *[BACK] * 11, ("lines",))[-3:], [[0], [-6], [1, 0, 1, 2]])

    def test_a_change_behind_a_back(self):
        self.assertEqual(
            run(*SOME, BACK, ("turn", 3), STATE, BACK, STATE, BACK, STATE)[5:],
            [[3], [10], [4, 3, 8, 4], [3], [4, 3, 0, 3], [2], [4, 2, 0, 2]])

    def test_changes_behind_backs_do_not_bring_the_eleventh_again(self):
        # Of 12 the last 10 are there; 3 taken back and 2 new ones, 9 are.
        calls = [("begin", 8)] + turns(12) + [BACK] * 3 + [("choose", 101), ("choose", 102)]
        self.assertEqual(last(*calls, STATE), [8, 0, 102, 9])
        shown = run(*calls, *[BACK, STATE] * 9, BACK)[len(calls):]
        self.assertEqual([state[2] for state in shown[1::2]], [101, 9, 8, 7, 6, 5, 4, 3, 2])
        self.assertEqual(shown[-1], [-6])

    def test_full_again_behind_backs(self):
        calls = [("begin", 8)] + turns(12) + [BACK] * 2 + [("choose", s) for s in (101, 102, 103)]
        self.assertEqual(last(*calls, STATE), [8, 0, 103, 10])
        shown = run(*calls, *[BACK, STATE] * 10, BACK)[len(calls):]
        self.assertEqual([state[2] for state in shown[1::2]], [102, 101, 10, 9, 8, 7, 6, 5, 4, 3])
        self.assertEqual(shown[-1], [-6])

    def test_all_taken_back_and_changed_anew(self):
        calls = [("begin", 8)] + turns(12) + [BACK] * 10 + [("choose", 77)]
        self.assertEqual(run(*calls, STATE, BACK, STATE, BACK)[-4:], [[8, 0, 77, 1], [0], [8, 0, 2, 0], [-6]])


class NoChange(unittest.TestCase):
    def test_what_is_refused(self):
        before = run(*SOME, *looks(4), BACK, *looks(4))[5:]
        for call in REFUSED:
            with self.subTest(call=call):
                answer, *behind = run(*SOME, call, *looks(4), BACK, *looks(4))[5:]
                self.assertLess(answer[0], 0)
                self.assertEqual(behind, before)

    def test_what_is_refused_does_not_push_out_the_tenth(self):
        calls = [("begin", 8)] + turns(11)
        refused = [("line", 8, 0, 5), ("line", 0, 0, 5), ("cut", 0), ("choose", 256), ("turn", 8), ("greedy", 9),
                   ("best",), ("leastall",), ("begin", 9)]
        self.assertEqual(
            run(*calls, *refused, *[BACK] * 11, STATE)[-3:], [[0], [-6], [8, 0, 1, 0]])

    def test_looking(self):
        self.assertEqual(run(*SOME, *looks(4), STATE, BACK, STATE)[-3:], [[4, 3, 5, 4], [3], [4, 3, 0, 3]])
        for call in looks(4) + [("ifchosen", 3), ("lines",), ("chosen",)]:
            self.assertEqual(run(*SOME, call, STATE, BACK)[-2:], [[4, 3, 5, 4], [3]])

    def test_a_refused_back(self):
        self.assertEqual(
            run(("begin", 2), BACK, ("turn", 1), BACK, BACK, ("turn", 0), STATE)[1:],
            [[-6], [3], [0], [-6], [3], [2, 0, 1, 1]])


class BeginAgain(unittest.TestCase):
    def test_nothing_can_be_taken_back(self):
        for n in (1, 4, 8):
            self.assertEqual(
                run(*SOME, ("begin", n), STATE, BACK, STATE)[5:], [[0], [n, 0, 0, 0], [-6], [n, 0, 0, 0]])

    def test_changes_since_then_alone(self):
        self.assertEqual(
            run(*SOME, ("begin", 8), ("turn", 7), STATE, BACK, BACK, STATE)[6:],
            [[15], [8, 0, 128, 1], [0], [-6], [8, 0, 0, 0]])

    def test_behind_a_refused_one_all_is_as_it_was(self):
        before = run(*SOME, *looks(4), BACK, BACK, *looks(4))[5:]
        for n in (0, 9, LARGEST):
            self.assertEqual(run(*SOME, ("begin", n), *looks(4), BACK, BACK, *looks(4))[5:], [[-22]] + before)


if __name__ == "__main__":
    unittest.main()
