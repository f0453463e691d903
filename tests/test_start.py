import unittest

from tests.helper import AT, COUNT, HOLD, LEAKS, LET, MOST, PARTS, RIGHT, TURN, WAY, WET, after, ask, start
from turnedpipes.board import answers


class Start(unittest.TestCase):
    def test_tells_how_many_cells_have_a_pipe(self):
        self.assertEqual(answers([0, 3, 2, 0, 0, 8, 50, 101, 99, 10, 50, 57, 52, 10]), [1, 6])
        self.assertEqual(ask(start(3, 1, 0, 0, "028\n")), [[2]])
        self.assertEqual(ask(start(1, 1, 0, 0, "0\n")), [[0]])

    def test_a_start_answered_0_has_begun(self):
        self.assertEqual(ask(start(1, 1, 0, 0, "0"), [WET]), [[0], [1, 0]])

    def test_each_digit_is_its_piece(self):
        for row, first in (("0123", 0), ("4567", 4), ("89ab", 8), ("cdef", 12)):
            told = after(start(4, 1, 0, 0, row), [AT, 0], [AT, 1], [AT, 2], [AT, 3])
            self.assertEqual([answer[0] for answer in told], [first, first + 1, first + 2, first + 3])

    def test_cells_are_numbered_row_by_row(self):
        told = after(start(2, 3, 0, 0, "12\n34\n56\n"), *[[AT, cell] for cell in range(6)])
        self.assertEqual([answer[0] for answer in told], [1, 2, 3, 4, 5, 6])

    def test_sizes(self):
        for width in range(0, 8):
            for height in range(0, 8):
                text = ("f" * width + "\n") * height
                is_size = 1 <= width <= 5 and 1 <= height <= 5 and width * height <= 12
                told = width * height if is_size else -22
                for goes_round in (0, 1):
                    self.assertEqual(ask(start(width, height, 0, goes_round, text)), [[told]], (width, height))

    def test_numbers_out_of_range(self):
        for wrong in (6, 255, 4294967294, MOST):
            self.assertEqual(ask(start(wrong, 1, 0, 0, "f")), [[-22]])
            self.assertEqual(ask(start(1, wrong, 0, 0, "f")), [[-22]])
        for wrong in (2, 3, MOST):
            self.assertEqual(ask(start(2, 1, wrong, 0, "28")), [[-22]])
            self.assertEqual(ask(start(2, 1, 0, wrong, "28")), [[-22]])
        self.assertEqual(ask(start(MOST, MOST, MOST, MOST, "")), [[-22]])

    def test_source_is_any_cell(self):
        for source in range(12):
            self.assertEqual(ask(start(4, 3, source, 0, "0000\n0000\n0000\n"), [WET]), [[0], [1, source]])
        self.assertEqual(ask(start(4, 3, 12, 0, "0000\n0000\n0000\n")), [[-22]])

    def test_texts_that_are_boards(self):
        self.assertEqual(ask(start(2, 2, 0, 0, "6c\n39\n")), [[4]])
        self.assertEqual(ask(start(2, 2, 0, 0, "6c\n39")), [[4]])

    def test_texts_that_are_none(self):
        wrong = (
            "", "\n", "6c", "6c\n", "6c\n3", "6c\n39\n\n", "6c\n39\n0", "6c\n39\n00\n", "\n6c\n39\n", "6c\n\n39\n",
            "6c39", "6c39\n", "6c3\n9\n", "6c0\n390\n", "6C\n39\n", "6g\n39\n", "6c\r\n39\r\n", "6c\n39\r", " 6c\n39\n",
            "6c\n39 ", "6/\n39\n", "6:\n39\n", "6`\n39\n", "6c\t39\n", "6c\n3\x00\n", "6c\n3\xff\n", "6c\n3\xb2\n",
        )
        for text in wrong:
            self.assertEqual(ask(start(2, 2, 0, 0, text)), [[-71]], repr(text))

    def test_every_byte_that_is_no_digit_is_refused(self):
        for byte in range(256):
            told = -71
            if byte in b"123456789abcdef":
                told = 1
            if byte in b"0":
                told = 0
            self.assertEqual(ask(start(1, 1, 0, 0, [byte])), [[told]], byte)

    def test_a_text_of_a_hundred_bytes(self):
        self.assertEqual(ask(start(5, 2, 0, 0, [255] * 100)), [[-71]])
        self.assertEqual(ask(start(5, 2, 0, 0, "aaaaa\naaaaa\n" + "\n" * 88)), [[-71]])
        self.assertEqual(ask(start(5, 2, 0, 0, [10] * 100), [WET]), [[-71], [-61]])

    def test_the_refusal_told_first(self):
        self.assertEqual(ask(start(0, 1, 0, 0, "x")), [[-22]])
        self.assertEqual(ask(start(2, 1, 2, 0, "x")), [[-22]])
        self.assertEqual(ask(start(2, 1, 0, 2, "x")), [[-22]])
        self.assertEqual(ask(start(5, 3, 0, 0, "x")), [[-22]])
        self.assertEqual(ask(start(2, 1, 1, 1, "x")), [[-71]])

    def test_the_call_behind_a_text_is_read(self):
        told = ask(start(2, 1, 0, 0, "x\n\n\n"), start(2, 1, 0, 0, "28"), start(9, 1, 0, 0, [5, 6, 7]), [RIGHT])
        self.assertEqual(told, [[-71], [2], [-22], [1]])


class Begun(unittest.TestCase):
    def test_every_call_ahead_of_a_start(self):
        wholes = (2, 1, 1, 1, 0, 0, 1, 0, 0, 0, 1, 2, 0, 1, 1, 0, 0, 0, 1)
        calls = [[number] + [0] * many for number, many in enumerate(wholes, start=1)]
        calls += [[20, 3, 48, 48, 10], [20, 0], [21], [22, 0], [23, 0], [24], [25], [26], [27]]
        self.assertEqual(ask(*calls), [[-61]] * 28)

    def test_ahead_of_any_other_refusal(self):
        self.assertEqual(ask([TURN, MOST, MOST], [WAY, MOST, 0], [LET, 0]), [[-61]] * 3)

    def test_refused_starts_begin_nothing(self):
        told = ask(start(0, 1, 0, 0, "1"), [WET], start(1, 1, 0, 0, "x"), [WET], [COUNT], start(1, 1, 0, 0, "1"), [WET])
        self.assertEqual(told, [[-22], [-61], [-71], [-61], [-61], [1], [1, 0]])


class StartAgain(unittest.TestCase):
    def test_a_refused_start_changes_nothing(self):
        first = start(3, 1, 2, 1, "2a8\n")
        asked = [[AT, 0], [AT, 1], [AT, 2], [WET], [LEAKS], [PARTS], [RIGHT], [COUNT], [HOLD, 1], [LET, 1]]
        for refused in (start(2, 1, 0, 0, "x8"), start(2, 1, 5, 0, "28"), start(5, 5, 0, 0, "28"), start(1, 1, 0, 2, "f")):
            without = after(first, [TURN, 0, 1], [HOLD, 0], *asked)
            within = after(first, [TURN, 0, 1], [HOLD, 0], refused, *asked)
            self.assertEqual(within[:2] + within[3:], without)
            self.assertLess(within[2][0], 0)

    def test_a_second_start_begins_anew(self):
        told = ask(
            start(2, 1, 1, 1, "28"), [HOLD, 0], [HOLD, 1], [TURN, 0, 1],
            start(3, 1, 0, 0, "2a8"), [TURN, 0, 2], [TURN, 0, 2], [HOLD, 2], [WET], [RIGHT], [AT, 1],
        )
        self.assertEqual(told, [[2], [1], [2], [-17], [3], [8], [2], [1], [3, 0, 1, 2], [1], [10, 0, 1, 0]])

    def test_a_second_start_can_stop_going_round(self):
        told = ask(start(2, 1, 0, 1, "aa"), [LEAKS], start(2, 1, 0, 0, "aa"), [LEAKS], start(2, 1, 0, 1, "aa"), [LEAKS])
        self.assertEqual(told, [[2], [0], [2], [2], [2], [0]])

    def test_a_smaller_board_has_fewer_cells(self):
        told = ask(start(2, 1, 1, 0, "28"), [AT, 1], start(1, 1, 0, 0, "0"), [AT, 1])
        self.assertEqual(told, [[2], [8, 0, 1, 0], [0], [-22]])


if __name__ == "__main__":
    unittest.main()
