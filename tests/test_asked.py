import unittest

from tests.helper import (
    AT, COUNT, HOLD, LEAK, LEAKS, MOST, PART, PARTS, RIGHT, RINGS, TURN, WAY, WET, after, ask, start,
)
from turnedpipes.board import answers

# Cells 0 to 4 are joined: 0 with 1, 1 with 2 and 4, 4 with 3. Cell 2 leaks down to cell 5,
# which has no arm up; cell 5 leaks down beyond the edge.
BOARD = [0, 3, 2, 0, 0, 8, 50, 101, 99, 10, 50, 57, 52, 10]


class ByHand(unittest.TestCase):
    def test_at(self):
        told = answers(BOARD + [4, 0, 4, 2, 2, 5, 4, 5])
        self.assertEqual(told, [1, 6, 4, 2, 0, 1, 0, 4, 12, 1, 1, 0, 1, 1, 4, 4, 1, 0, 1])

    def test_wet(self):
        self.assertEqual(answers(BOARD + [5]), [1, 6, 6, 5, 0, 1, 2, 3, 4])

    def test_leaks(self):
        self.assertEqual(answers(BOARD + [6]), [1, 6, 1, 2])

    def test_leak(self):
        self.assertEqual(answers(BOARD + [7, 2, 7, 0, 7, 5]), [1, 6, 2, 1, 2, 1, 0, 2, 1, 2])

    def test_rings(self):
        # 4 joints and 2 parts, less 6 cells.
        self.assertEqual(answers(BOARD + [8]), [1, 6, 1, 0])

    def test_right(self):
        # Turned by two quarters cell 5 is joined with cell 2.
        self.assertEqual(answers(BOARD + [9, 1, 5, 2, 9]), [1, 6, 1, 0, 1, 1, 1, 1])

    def test_parts(self):
        self.assertEqual(answers(BOARD + [10]), [1, 6, 3, 2, 0, 5])

    def test_part(self):
        self.assertEqual(answers(BOARD + [11, 3, 11, 5]), [1, 6, 6, 5, 0, 1, 2, 3, 4, 2, 1, 5])

    def test_way(self):
        self.assertEqual(answers(BOARD + [12, 3, 2, 12, 0, 5, 12, 5, 5]), [1, 6, 5, 4, 3, 4, 1, 2, 1, -6, 2, 1, 5])

    def test_count(self):
        # Cell 1 can't lie but with arms right, down and left; all else follows from it.
        self.assertEqual(answers(BOARD + [13]), [1, 6, 1, 1])


class NoSuchCell(unittest.TestCase):
    def test_each_call_that_takes_a_cell(self):
        for cell in (2, 3, 12, MOST):
            told = after(start(2, 1, 0, 0, "28"), [AT, cell], [LEAK, cell], [PART, cell], [WAY, cell, 0], [WAY, 0, cell])
            self.assertEqual(told, [[-22]] * 5)

    def test_ahead_of_cells_that_are_apart(self):
        told = after(start(2, 1, 0, 0, "82"), [WAY, 0, 1], [WAY, 1, 2], [WAY, 2, 1], [WAY, 2, 2])
        self.assertEqual(told, [[-6], [-22], [-22], [-22]])

    def test_the_last_cell_of_twelve(self):
        first = start(4, 3, 11, 0, "0000\n0000\n0002\n")
        self.assertEqual(after(first, [AT, 11], [AT, 12], [PART, 11], [LEAK, 11]), [[2, 1, 1, 0], [-22], [1, 11], [1, 1]])


class OneCell(unittest.TestCase):
    def test_not_going_round(self):
        told = ask(start(1, 1, 0, 0, "f"), [AT, 0], [WET], [LEAKS], [LEAK, 0], [RINGS], [RIGHT], [PARTS], [PART, 0],
                   [WAY, 0, 0], [COUNT])
        self.assertEqual(told, [[1], [15, 4, 1, 0], [1, 0], [4], [4, 0, 1, 2, 3], [0], [0], [1, 0], [1, 0], [1, 0], [0]])

    def test_going_round_it_is_joined_with_itself(self):
        told = ask(start(1, 1, 0, 1, "a"), [AT, 0], [WET], [LEAKS], [LEAK, 0], [RINGS], [RIGHT], [PARTS], [PART, 0],
                   [WAY, 0, 0], [COUNT])
        self.assertEqual(told, [[1], [10, 0, 1, 0], [1, 0], [0], [0], [1], [0], [1, 0], [1, 0], [1, 0], [0]])

    def test_each_piece_going_round(self):
        # Two arms that lie against one another are a joint, and so a ring; any other arm leaks.
        for piece, digit in enumerate("0123456789abcdef"):
            joints = (1 if piece & 5 == 5 else 0) + (1 if piece & 10 == 10 else 0)
            leaking = bin(piece).count("1") - 2 * joints
            told = after(start(1, 1, 0, 1, digit), [LEAKS], [RINGS], [RIGHT], [COUNT])
            is_right = 1 if piece == 0 else 0
            self.assertEqual(told, [[leaking], [joints], [is_right], [is_right]], digit)

    def test_without_a_pipe(self):
        for goes_round in (0, 1):
            told = ask(start(1, 1, 0, goes_round, "0"), [AT, 0], [WET], [LEAKS], [LEAK, 0], [RINGS], [RIGHT], [PARTS],
                       [PART, 0], [WAY, 0, 0], [COUNT])
            self.assertEqual(told, [[0], [0, 0, 1, 0], [1, 0], [0], [0], [0], [1], [0], [1, 0], [1, 0], [1]])


class OneLine(unittest.TestCase):
    def test_five_by_one(self):
        told = after(start(5, 1, 3, 0, "2a2a8\n"), [WET], [LEAKS], [LEAK, 0], [LEAK, 3], [RINGS], [PARTS], [PART, 0],
                     [WAY, 4, 2], [WAY, 2, 4], [WAY, 1, 2])
        self.assertEqual(told, [[3, 2, 3, 4], [1], [0], [0], [0], [2, 0, 2], [2, 0, 1], [3, 4, 3, 2], [3, 2, 3, 4], [-6]])

    def test_one_by_five(self):
        told = after(start(1, 5, 3, 0, "4\n5\n4\n5\n1\n"), [WET], [LEAKS], [LEAK, 1], [RINGS], [PARTS], [PART, 0],
                     [WAY, 4, 2], [WAY, 1, 2])
        self.assertEqual(told, [[3, 2, 3, 4], [1], [1, 2], [0], [2, 0, 2], [2, 0, 1], [3, 4, 3, 2], [-6]])

    def test_right_lines(self):
        for source in range(5):
            self.assertEqual(after(start(5, 1, source, 0, "2aaa8"), [RIGHT], [COUNT]), [[1], [1]])
            self.assertEqual(after(start(1, 5, source, 0, "4\n5\n5\n5\n1"), [RIGHT], [COUNT]), [[1], [1]])

    def test_five_by_one_going_round(self):
        told = after(start(5, 1, 3, 1, "aaaaa"), [LEAKS], [RINGS], [RIGHT], [WET], [PARTS], [WAY, 0, 3], [WAY, 1, 4])
        self.assertEqual(told, [[0], [1], [0], [5, 0, 1, 2, 3, 4], [1, 0], [3, 0, 4, 3], [3, 1, 0, 4]])

    def test_one_by_five_going_round(self):
        told = after(start(1, 5, 3, 1, "5\n5\n5\n5\n5\n"), [LEAKS], [RINGS], [RIGHT], [WET], [PARTS], [WAY, 0, 3])
        self.assertEqual(told, [[0], [1], [0], [5, 0, 1, 2, 3, 4], [1, 0], [3, 0, 4, 3]])

    def test_up_and_down_in_a_row_that_goes_round(self):
        # Each cell is the one above and below itself: 5 joints and 5 parts, less 5 cells.
        told = after(start(5, 1, 3, 1, "55555"), [LEAKS], [RINGS], [WET], [PARTS], [AT, 0], [WAY, 0, 1])
        self.assertEqual(told, [[0], [5], [1, 3], [5, 0, 1, 2, 3, 4], [5, 0, 0, 0], [-6]])

    def test_a_line_that_joins_round_its_ends(self):
        told = after(start(5, 1, 0, 1, "8002a"), [WET], [LEAKS], [LEAK, 4], [PARTS], [WAY, 3, 0], [RIGHT])
        self.assertEqual(told, [[3, 0, 3, 4], [0], [0], [1, 0], [3, 3, 4, 0], [1]])


class TwoJoints(unittest.TestCase):
    def test_between_two_cells_side_by_side(self):
        told = after(start(2, 1, 0, 1, "aa"), [LEAKS], [RINGS], [RIGHT], [WET], [PARTS], [WAY, 0, 1], [AT, 1])
        self.assertEqual(told, [[0], [1], [0], [2, 0, 1], [1, 0], [2, 0, 1], [10, 0, 1, 0]])

    def test_between_two_cells_above_one_another(self):
        told = after(start(1, 2, 0, 1, "5\n5\n"), [LEAKS], [RINGS], [RIGHT], [WET], [PARTS], [WAY, 1, 0])
        self.assertEqual(told, [[0], [1], [0], [2, 0, 1], [1, 0], [2, 1, 0]])

    def test_one_of_the_two(self):
        for text in ("28", "82"):
            self.assertEqual(after(start(2, 1, 0, 1, text), [LEAKS], [RINGS], [RIGHT], [WET]), [[0], [0], [1], [2, 0, 1]])
        self.assertEqual(after(start(2, 1, 0, 1, "22"), [LEAKS], [RINGS], [RIGHT], [WET]), [[2], [0], [0], [1, 0]])

    def test_all_crosses_of_two_by_two(self):
        # 8 joints, 1 part, 4 cells.
        told = after(start(2, 2, 0, 1, "ff\nff\n"), [LEAKS], [RINGS], [PARTS], [WAY, 0, 3], [WAY, 3, 0])
        self.assertEqual(told, [[0], [5], [1, 0], [3, 0, 1, 3], [3, 3, 1, 0]])


class Corners(unittest.TestCase):
    def test_a_source_without_a_pipe(self):
        told = after(start(3, 1, 0, 0, "028"), [WET], [AT, 0], [AT, 1], [LEAKS], [RINGS], [RIGHT], [PARTS], [PART, 0],
                     [WAY, 0, 0], [WAY, 0, 1], [COUNT])
        self.assertEqual(told, [[1, 0], [0, 0, 1, 0], [2, 0, 0, 0], [0], [0], [0], [1, 1], [1, 0], [1, 0], [-6], [0]])

    def test_an_arm_to_a_cell_without_a_pipe_leaks(self):
        told = after(start(2, 1, 0, 0, "20"), [WET], [LEAKS], [LEAK, 0], [LEAK, 1], [AT, 1])
        self.assertEqual(told, [[1, 0], [1], [1, 1], [0], [0, 0, 0, 0]])

    def test_a_board_without_any_pipe(self):
        for goes_round in (0, 1):
            told = ask(start(4, 3, 7, goes_round, "0000\n0000\n0000"), [WET], [LEAKS], [RINGS], [RIGHT], [PARTS],
                       [PART, 2], [WAY, 2, 2], [WAY, 2, 3], [COUNT])
            self.assertEqual(told, [[0], [1, 7], [0], [0], [1], [0], [1, 2], [1, 2], [-6], [1]])

    def test_a_ring_that_is_wet(self):
        told = after(start(2, 2, 1, 0, "6c\n39\n"), [WET], [LEAKS], [RINGS], [RIGHT], [PARTS], [COUNT])
        self.assertEqual(told, [[4, 0, 1, 2, 3], [0], [1], [0], [1, 0], [0]])

    def test_a_ring_that_is_dry(self):
        told = after(start(3, 2, 2, 0, "6c4\n391\n"), [WET], [LEAKS], [RINGS], [RIGHT], [PARTS], [PART, 3])
        self.assertEqual(told, [[2, 2, 5], [0], [1], [0], [2, 0, 2], [4, 0, 1, 3, 4]])

    def test_no_leak_and_no_ring_but_a_dry_part(self):
        told = after(start(2, 2, 0, 0, "28\n28\n"), [WET], [LEAKS], [RINGS], [RIGHT], [PARTS])
        self.assertEqual(told, [[2, 0, 1], [0], [0], [0], [2, 0, 2]])

    def test_leaks_and_nothing_else_wrong(self):
        told = after(start(2, 1, 0, 0, "38"), [WET], [LEAKS], [LEAK, 0], [RINGS], [RIGHT])
        self.assertEqual(told, [[2, 0, 1], [1], [1, 0], [0], [0]])

    def test_cells_without_a_pipe_need_not_be_wet(self):
        self.assertEqual(after(start(2, 2, 0, 0, "28\n00\n"), [WET], [RIGHT], [COUNT]), [[2, 0, 1], [1], [1]])

    def test_all_crosses_of_twelve(self):
        # 17 joints within the board; 14 arms beyond its edges.
        first = start(4, 3, 0, 0, "ffff\nffff\nffff\n")
        told = after(first, [LEAKS], [RINGS], [LEAK, 0], [LEAK, 1], [LEAK, 5], [LEAK, 11], [PARTS])
        self.assertEqual(told, [[14], [6], [2, 0, 3], [1, 0], [0], [2, 1, 2], [1, 0]])

    def test_all_crosses_of_twelve_going_round(self):
        # 24 joints.
        first = start(4, 3, 0, 1, "ffff\nffff\nffff\n")
        told = after(first, [LEAKS], [RINGS], [LEAK, 0], [PARTS], [RIGHT])
        self.assertEqual(told, [[0], [13], [0], [1, 0], [0]])


class Asked(unittest.TestCase):
    def test_asking_changes_nothing(self):
        asked = [[AT, 4], [WET], [LEAKS], [LEAK, 2], [RINGS], [RIGHT], [PARTS], [PART, 3], [WAY, 3, 2], [COUNT]]
        told = after(BOARD, [HOLD, 0], [TURN, 1, 2], *(asked * 3))
        self.assertEqual(told[2:12], told[12:22])
        self.assertEqual(told[2:12], told[22:32])

    def test_what_a_turn_changes_is_told(self):
        told = after(BOARD, [TURN, 1, 2], [WET], [LEAKS], [LEAK, 1], [LEAK, 4], [PARTS], [TURN, 1, 2], [WET])
        # Cell 1 then has arms up, right and left: it leaks up, and cell 4 leaks up to it.
        self.assertEqual(told, [[11], [3, 0, 1, 2], [4], [1, 0], [1, 0], [3, 0, 3, 5], [14], [5, 0, 1, 2, 3, 4]])


class Way(unittest.TestCase):
    def test_of_two_the_one_whose_numbers_come_first(self):
        told = after(start(2, 2, 0, 0, "6c\n39\n"), [WAY, 0, 3], [WAY, 3, 0], [WAY, 1, 2], [WAY, 2, 1])
        self.assertEqual(told, [[3, 0, 1, 3], [3, 3, 1, 0], [3, 1, 0, 2], [3, 2, 0, 1]])

    def test_of_many(self):
        first = start(4, 3, 0, 0, "ffff\nffff\nffff\n")
        told = after(first, [WAY, 0, 11], [WAY, 11, 0], [WAY, 3, 8], [WAY, 8, 3], [WAY, 9, 6])
        self.assertEqual(told, [
            [6, 0, 1, 2, 3, 7, 11], [6, 11, 7, 3, 2, 1, 0], [6, 3, 2, 1, 0, 4, 8], [6, 8, 4, 0, 1, 2, 3], [3, 9, 5, 6],
        ])

    def test_the_first_that_differs_counts_not_the_last(self):
        # From 0 up round the edge to 8, or right to 1 and from there up round the edge to 9.
        first = start(2, 5, 0, 1, "ff\nff\nff\nff\nff\n")
        told = after(first, [WAY, 0, 7], [WAY, 7, 0], [WAY, 1, 6], [WAY, 6, 1])
        self.assertEqual(told, [[4, 0, 1, 9, 7], [4, 7, 6, 8, 0], [4, 1, 0, 8, 6], [4, 6, 7, 9, 1]])

    def test_a_longer_one_is_not_taken(self):
        # Round the ring from 0 to 1 there is a way of six cells too.
        told = after(start(3, 2, 0, 0, "6ac\n3a9\n"), [WAY, 0, 1], [WAY, 0, 5], [WAY, 4, 1])
        self.assertEqual(told, [[2, 0, 1], [4, 0, 1, 2, 5], [4, 4, 3, 0, 1]])

    def test_to_itself(self):
        self.assertEqual(after(start(2, 1, 0, 0, "00"), [WAY, 1, 1], [WAY, 0, 1]), [[1, 1], [-6]])

    def test_an_arm_that_is_not_answered_is_no_way(self):
        self.assertEqual(after(start(2, 1, 0, 0, "20"), [WAY, 0, 1], [WAY, 1, 0]), [[-6], [-6]])


if __name__ == "__main__":
    unittest.main()
