import unittest

from tests.helper import COUNT, HOLD, LET, RIGHT, TURN, after, ask, start

# A snake through twelve cells: along the top row, back along the middle, along the bottom.
SNAKE = start(4, 3, 0, 0, "2aac\n6aa9\n3aa8\n")

# A cross with an elbow at each arm and an end in each corner: all elbows go to the corner on
# their left, or all to that on their right.
WHEEL = "131\n3f3\n131\n"


class Count(unittest.TestCase):
    def test_a_board_that_is_right_is_a_way(self):
        self.assertEqual(after(SNAKE, [RIGHT], [COUNT]), [[1], [1]])
        self.assertEqual(after(start(2, 1, 0, 0, "28"), [RIGHT], [COUNT]), [[1], [1]])

    def test_a_board_that_is_not_right_has_ways(self):
        self.assertEqual(after(start(2, 1, 0, 0, "22"), [RIGHT], [COUNT]), [[0], [1]])
        self.assertEqual(after(start(2, 2, 0, 0, "11\n33\n"), [RIGHT], [COUNT]), [[0], [1]])

    def test_turning_leaves_the_ways(self):
        turns = [[TURN, cell, 1 + cell % 3] for cell in range(12)]
        told = after(SNAKE, *turns, [RIGHT], [COUNT])
        self.assertEqual(told[12:], [[0], [1]])

    def test_none(self):
        self.assertEqual(after(start(2, 1, 0, 0, "2a"), [COUNT]), [[0]])
        self.assertEqual(after(start(2, 1, 0, 0, "20"), [COUNT]), [[0]])
        self.assertEqual(after(start(2, 2, 0, 0, "13\n31\n"), [COUNT]), [[0]])
        self.assertEqual(after(start(2, 2, 0, 0, "33\n33\n"), [COUNT]), [[0]])
        self.assertEqual(after(start(2, 2, 0, 0, "11\n11\n"), [COUNT]), [[0]])
        self.assertEqual(after(start(4, 3, 0, 1, "ffff\nffff\nffff\n"), [COUNT]), [[0]])

    def test_two(self):
        self.assertEqual(after(start(3, 3, 0, 0, WHEEL), [COUNT]), [[2]])

    def test_two_on_twelve_cells(self):
        self.assertEqual(after(start(4, 3, 0, 0, "1310\n3f30\n1310\n"), [COUNT]), [[2]])
        self.assertEqual(after(start(3, 4, 5, 0, WHEEL + "000\n"), [COUNT]), [[2]])

    def test_two_cells_that_go_round(self):
        self.assertEqual(after(start(2, 1, 0, 1, "11"), [COUNT]), [[2]])
        self.assertEqual(after(start(1, 2, 0, 1, "1\n1\n"), [COUNT]), [[2]])

    def test_four_cells_that_go_round(self):
        # From 0 by 2 and 3 to 1, and each of the three joints can be on either side.
        self.assertEqual(after(start(2, 2, 0, 1, "11\n33\n"), [COUNT]), [[8]])

    def test_a_line_that_goes_round(self):
        # The straight one can't lie across: it would be joined with itself.
        self.assertEqual(after(start(3, 1, 0, 1, "151"), [COUNT]), [[1]])
        self.assertEqual(after(start(5, 1, 0, 1, "15551"), [COUNT]), [[1]])
        self.assertEqual(after(start(1, 5, 0, 1, "1\na\na\na\n1\n"), [COUNT]), [[1]])
        self.assertEqual(after(start(5, 1, 0, 1, "55555"), [COUNT]), [[0]])

    def test_each_board_once(self):
        # Straight pieces lie alike by two turns, the cross and cells without a pipe by each.
        self.assertEqual(after(start(5, 1, 0, 0, "25558"), [COUNT]), [[1]])
        self.assertEqual(after(start(3, 3, 4, 0, "010\n1f1\n010\n"), [COUNT]), [[1]])
        self.assertEqual(after(start(4, 3, 4, 0, "0100\n1f51\n0100\n"), [COUNT]), [[1]])
        self.assertEqual(after(start(4, 3, 4, 0, "0000\n0000\n0000\n"), [COUNT]), [[1]])

    def test_each_source(self):
        for source in range(9):
            self.assertEqual(after(start(3, 3, source, 0, WHEEL), [COUNT]), [[2]])
        for source, told in ((0, 0), (1, 1), (2, 1)):
            self.assertEqual(after(start(3, 1, source, 0, "011"), [COUNT]), [[told]])


class Held(unittest.TestCase):
    def test_a_held_piece_leaves_fewer_ways(self):
        told = after(start(2, 2, 0, 1, "11\n33\n"), [COUNT], [HOLD, 0], [COUNT], [HOLD, 1], [COUNT])
        self.assertEqual(told, [[8], [1], [4], [2], [2]])

    def test_a_held_piece_leaves_no_way(self):
        # Cell 0 has its arm up, so cell 2 would need one down. With cell 2 alone held, which has
        # arms up and right, the joint of 3 and 1 can still be on either side.
        told = after(start(2, 2, 0, 1, "11\n33\n"), [HOLD, 0], [HOLD, 2], [COUNT], [LET, 0], [COUNT], [LET, 2], [COUNT])
        self.assertEqual(told, [[1], [2], [0], [1], [2], [0], [8]])

    def test_on_twelve_cells(self):
        told = after(SNAKE, [HOLD, 5], [COUNT], [LET, 5], [TURN, 5, 1], [COUNT], [HOLD, 5], [COUNT])
        self.assertEqual(told, [[1], [1], [0], [5], [1], [1], [0]])

    def test_all_held(self):
        holds = [[HOLD, cell] for cell in range(12)]
        self.assertEqual(after(SNAKE, *holds, [COUNT])[12:], [[1]])
        self.assertEqual(after(SNAKE, [TURN, 0, 1], *holds, [COUNT])[13:], [[0]])

    def test_a_held_cell_without_a_pipe(self):
        self.assertEqual(after(start(3, 1, 1, 0, "011"), [HOLD, 0], [COUNT]), [[1], [1]])

    def test_counting_changes_nothing(self):
        told = ask(start(3, 3, 0, 0, WHEEL), [COUNT], [COUNT], [HOLD, 0], [COUNT], [COUNT], [LET, 0], [COUNT])
        self.assertEqual(told, [[9], [2], [2], [1], [0], [0], [0], [2]])


if __name__ == "__main__":
    unittest.main()
