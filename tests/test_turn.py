import unittest

from tests.helper import AT, HOLD, LET, MOST, TURN, WET, after, start
from turnedpipes.board import answers

LINE = start(3, 1, 0, 0, "2a8")


class Turn(unittest.TestCase):
    def test_tells_the_piece_as_it_lies(self):
        self.assertEqual(answers([0, 1, 1, 0, 0, 1, 49, 1, 0, 1, 1, 0, 2]), [1, 1, 1, 2, 1, 8])

    def test_by_each_number_of_quarters(self):
        by_a_quarter = (0, 2, 4, 6, 8, 10, 12, 14, 1, 3, 5, 7, 9, 11, 13, 15)
        for piece in range(16):
            one = by_a_quarter[piece]
            two = by_a_quarter[one]
            three = by_a_quarter[two]
            first = start(1, 1, 0, 0, "0123456789abcdef"[piece])
            self.assertEqual(after(first, [TURN, 0, 1], [AT, 0])[0], [one])
            self.assertEqual(after(first, [TURN, 0, 2])[0], [two])
            self.assertEqual(after(first, [TURN, 0, 3])[0], [three])
            told = after(first, [TURN, 0, 3], [AT, 0])
            self.assertEqual(told[1][0], three)

    def test_only_this_cell_is_turned(self):
        told = after(LINE, [TURN, 1, 1], [AT, 0], [AT, 1], [AT, 2], [WET])
        self.assertEqual(told, [[5], [2, 1, 1, 0], [5, 2, 0, 0], [8, 1, 0, 0], [1, 0]])

    def test_refusals(self):
        for quarters in (0, 4, 5, MOST):
            self.assertEqual(after(LINE, [TURN, 0, quarters], [AT, 0]), [[-22], [2, 0, 1, 0]])
        for cell in (3, 12, MOST):
            self.assertEqual(after(LINE, [TURN, cell, 1]), [[-22]])
        self.assertEqual(after(LINE, [HOLD, 0], [TURN, 0, 1], [AT, 0]), [[1], [-17], [2, 0, 1, 1]])

    def test_the_refusal_told_first(self):
        told = after(LINE, [HOLD, 0], [TURN, 0, 0], [TURN, 0, 4], [TURN, 3, 0], [TURN, 0, 3])
        self.assertEqual(told, [[1], [-22], [-22], [-22], [-17]])

    def test_other_pieces_turn_while_one_is_held(self):
        self.assertEqual(after(LINE, [HOLD, 0], [TURN, 2, 1], [LET, 0], [TURN, 0, 1]), [[1], [1], [0], [4]])


class Hold(unittest.TestCase):
    def test_tells_how_many_are_held(self):
        self.assertEqual(answers([0, 2, 1, 0, 0, 2, 50, 56, 2, 1, 2, 0, 3, 1]), [1, 2, 1, 1, 1, 2, 1, 1])

    def test_a_cell_without_a_pipe_is_held_too(self):
        told = after(start(2, 1, 0, 0, "00"), [HOLD, 0], [AT, 0], [AT, 1], [TURN, 0, 1], [TURN, 1, 1])
        self.assertEqual(told, [[1], [0, 0, 1, 1], [0, 0, 0, 0], [-17], [0]])

    def test_all_twelve(self):
        first = start(4, 3, 0, 0, "0123\n4567\n89ab\n")
        self.assertEqual(after(first, *[[HOLD, cell] for cell in range(12)]), [[many] for many in range(1, 13)])

    def test_refusals_change_nothing(self):
        told = after(LINE, [HOLD, 1], [HOLD, 1], [HOLD, 3], [HOLD, MOST], [HOLD, 2])
        self.assertEqual(told, [[1], [-17], [-22], [-22], [2]])


class Let(unittest.TestCase):
    def test_tells_how_many_are_held(self):
        told = after(LINE, [HOLD, 0], [HOLD, 1], [HOLD, 2], [LET, 1], [AT, 1], [AT, 2], [LET, 0], [LET, 2])
        self.assertEqual(told, [[1], [2], [3], [2], [10, 0, 1, 0], [8, 0, 1, 1], [1], [0]])

    def test_refusals_change_nothing(self):
        told = after(LINE, [LET, 1], [HOLD, 1], [LET, 0], [LET, 3], [LET, MOST], [AT, 1], [LET, 1], [LET, 1])
        self.assertEqual(told, [[-2], [1], [-2], [-22], [-22], [10, 0, 1, 1], [0], [-2]])

    def test_held_again(self):
        self.assertEqual(after(LINE, [HOLD, 1], [LET, 1], [HOLD, 1], [HOLD, 1]), [[1], [0], [1], [-17]])


if __name__ == "__main__":
    unittest.main()
