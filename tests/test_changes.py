import unittest

from tests.helper import (
    AGAIN, AT, BACK, COUNT, CUT, ENDS, HOLD, LAY, LEAK, LEAKS, LET, MIX, MOST, NTH, PARTS, RIGHT, RINGS, SOURCE, STATE,
    TEXT, TURN, WET, after, ask, mix, start,
)
from turnedpipes.board import answers

# The text "151".
LINE = [0, 3, 1, 0, 0, 3, 49, 53, 49]

DIGITS = "0123456789abcdef"


def row_of(text):
    return [len(text)] + list(text.encode())


class ByHand(unittest.TestCase):
    def test_mix(self):
        # To "254": 1, 0 and 2 turns.
        self.assertEqual(answers(LINE + [20, 4, 50, 53, 52, 10, 4, 2]), [1, 3, 1, 3, 4, 4, 1, 0, 0])

    def test_text(self):
        self.assertEqual(answers(LINE + [21]), [1, 3, 5, 4, 49, 53, 49, 10])

    def test_source(self):
        self.assertEqual(answers(LINE + [22, 2, 22, 0, 22, 3]), [1, 3, 1, 0, 1, 2, 1, -22])

    def test_cut(self):
        self.assertEqual(answers(LINE + [23, 1, 4, 1]), [1, 3, 1, 5, 4, 0, 0, 0, 0])

    def test_ends(self):
        self.assertEqual(answers(LINE + [24]), [1, 3, 3, 2, 0, 2])

    def test_state(self):
        calls = [0, 3, 1, 2, 1, 3, 49, 53, 49, 1, 0, 2, 1, 1, 3, 2, 1, 2, 0, 3, 0, 25, 27]
        # 2 and 1 turns; 5 changes, of which the last, a let, is taken back.
        self.assertEqual(answers(calls), [1, 3, 1, 4, 1, 10, 1, 1, 1, 2, 1, 1, 1, 4, 8, 3, 3, 1, 2, 1, 2, 4, 1])


class Mix(unittest.TestCase):
    def test_is_the_board_from_then_on(self):
        told = after(start(2, 2, 0, 0, "6c\n39\n"), mix("93\nc6\n"), [TEXT], [LEAKS], [PARTS], [ENDS], [COUNT])
        self.assertEqual(told, [[8], row_of("93\nc6\n"), [8], [4, 0, 1, 2, 3], [0], [0]])

    def test_turns_of_each_piece(self):
        for piece in range(16):
            lies = [(piece << quarters | piece >> 4 - quarters) & 15 for quarters in range(4)]
            first = start(1, 1, 0, 0, DIGITS[piece])
            for other in range(16):
                told = [[-13], [piece]]
                if other in lies:
                    told = [[(0, 1, 2, 1)[lies.index(other)]], [other]]
                asked = after(first, mix(DIGITS[other]), [AT, 0])
                self.assertEqual([asked[0], asked[1][:1]], told, (piece, other))

    def test_all_cells_together(self):
        first = start(4, 3, 0, 0, "1248\n1248\n5a3f\n")
        # Four times 1, four times 2, then 1 for each but the second and the last.
        self.assertEqual(after(first, mix("2481\n4812\naa6f"), [TEXT]), [[14], row_of("2481\n4812\naa6f\n")])

    def test_to_the_same_board(self):
        told = after(LINE, [TURN, 0, 1], mix("251"), [STATE])
        self.assertEqual(told, [[2], [0], [0, 3, 1, 0, 0, 0, 2, 0]])

    def test_nothing_was_turned(self):
        told = after(LINE, [TURN, 0, 2], [STATE], mix("1a1\n"), [STATE], [TURN, 0, 3], [STATE])
        self.assertEqual([answer[0] for answer in told], [4, 2, 3, 0, 8, 1])

    def test_no_board_of_this_size(self):
        wrong = ("", "\n", "15", "1511", "151\n1", "151\n\n", "\n151", "1\n5\n1\n", "15g", "15A", "15 ", "1\x005", "151\r\n")
        for text in wrong:
            told = after(LINE, mix(text), [TEXT], [STATE])
            self.assertEqual(told, [[-71], row_of("151\n"), [0, 3, 1, 0, 0, 0, 0, 0]], repr(text))
        self.assertEqual(after(LINE, mix([255] * 100), mix([10] * 100), mix([49, 53, 177])), [[-71], [-71], [-71]])

    def test_not_this_one_with_pieces_turned(self):
        for text in ("051", "331", "111", "155", "f51", "150", "511", "1a3"):
            told = after(LINE, mix(text), [TEXT], [STATE])
            self.assertEqual(told, [[-13], row_of("151\n"), [0, 3, 1, 0, 0, 0, 0, 0]], text)

    def test_a_held_piece_would_lie_otherwise(self):
        told = after(LINE, [HOLD, 1], mix("1a1"), mix("152"), [HOLD, 2], mix("151"), mix("452"), [TEXT])
        self.assertEqual(told, [[1], [-17], [1], [2], [-17], [2], row_of("452\n")])

    def test_the_refusal_told_first(self):
        # Cell 0 is held; of these texts the last alone is this board turned.
        told = after(LINE, [HOLD, 0], mix("25"), mix("2x1"), mix("253"), mix("351"), mix("251"))
        self.assertEqual(told, [[1], [-71], [-71], [-13], [-13], [-17]])

    def test_refused_it_changes_nothing(self):
        for text in ("25", "253", "251"):
            told = after(LINE, [HOLD, 0], [TURN, 1, 1], mix(text), [TEXT], [STATE])
            self.assertEqual(told[3:], [row_of("1a1\n"), [1, 3, 1, 0, 0, 1, 2, 0]], text)

    def test_the_call_behind_a_text_is_read(self):
        told = after(LINE, mix([20, 0, 25, 27]), [STATE], mix(""), [TEXT])
        self.assertEqual(told, [[-71], [0, 3, 1, 0, 0, 0, 0, 0], [-71], row_of("151\n")])

    def test_one_line_and_one_column(self):
        told = after(start(5, 1, 0, 1, "12485"), mix("8124a\n"), [TEXT])
        self.assertEqual(told, [[5], row_of("8124a\n")])
        told = after(start(1, 5, 0, 1, "1\n2\n4\n8\n5"), mix("12485"), mix("8\n1\n2\n4\na"), [TEXT])
        self.assertEqual(told, [[-71], [5], row_of("8\n1\n2\n4\na\n")])


class Text(unittest.TestCase):
    def test_a_byte_10_behind_each_line(self):
        self.assertEqual(after(start(4, 3, 0, 0, "0123\n4567\n89ab"), [TEXT]), [row_of("0123\n4567\n89ab\n")])
        self.assertEqual(after(start(2, 2, 0, 1, "cd\nef\n"), [TEXT]), [row_of("cd\nef\n")])
        self.assertEqual(after(start(1, 1, 0, 1, "0"), [TEXT]), [row_of("0\n")])
        self.assertEqual(after(start(5, 1, 0, 0, "fedcb"), [TEXT]), [row_of("fedcb\n")])
        self.assertEqual(after(start(1, 5, 0, 0, "f\ne\nd\nc\nb"), [TEXT]), [row_of("f\ne\nd\nc\nb\n")])

    def test_as_the_pieces_lie_now(self):
        told = after(LINE, [TURN, 2, 3], [TEXT], [CUT, 0], [TEXT], [BACK], [TEXT])
        self.assertEqual(told, [[8], row_of("158\n"), [1], row_of("058\n"), [1], row_of("158\n")])

    def test_reads_back_as_what_it_was_written_from(self):
        sizes = [(w, h) for w in range(1, 6) for h in range(1, 6) if w * h <= 12]
        for width, height in sizes:
            for shift in range(16):
                pieces = [(cell * 5 + shift) % 16 for cell in range(width * height)]
                lines = ["".join(DIGITS[piece] for piece in pieces[y * width:y * width + width]) for y in range(height)]
                first = start(width, height, 0, 0, "\n".join(lines))
                written = after(first, [TEXT])[0]
                self.assertEqual(written[0], (width + 1) * height)
                again = start(width, height, 0, 0, written[1:])
                told = ask(again, [TEXT], *[[AT, cell] for cell in range(width * height)])
                self.assertEqual(told[1], written)
                self.assertEqual([answer[0] for answer in told[2:]], pieces)
                self.assertEqual(after(first, [MIX] + written)[0], [0])


class Source(unittest.TestCase):
    def test_what_is_wet_changes(self):
        told = after(start(4, 1, 0, 0, "2828"), [WET], [SOURCE, 3], [WET], [AT, 0], [STATE], [SOURCE, 1], [WET])
        self.assertEqual(told, [[2, 0, 1], [0], [2, 2, 3], [2, 0, 0, 0], [0, 4, 1, 3, 0, 0, 1, 0], [3], [2, 0, 1]])

    def test_to_the_cell_that_it_is(self):
        self.assertEqual(after(LINE, [SOURCE, 0], [STATE]), [[0], [0, 3, 1, 0, 0, 0, 1, 0]])

    def test_each_of_twelve_cells(self):
        first = start(4, 3, 0, 0, "0000\n0000\n0000\n")
        told = after(first, *[[SOURCE, cell] for cell in range(11, -1, -1)], [SOURCE, 12], [SOURCE, MOST], [STATE])
        self.assertEqual(told[:12], [[0]] + [[cell] for cell in range(11, 0, -1)])
        self.assertEqual(told[12:], [[-22], [-22], [0, 4, 3, 0, 0, 0, 12, 0]])

    def test_to_a_held_cell(self):
        self.assertEqual(after(LINE, [HOLD, 2], [SOURCE, 2], [SOURCE, 2]), [[1], [0], [2]])

    def test_to_a_cell_without_a_pipe(self):
        first = start(3, 1, 1, 0, "028")
        told = after(first, [RIGHT], [COUNT], [SOURCE, 0], [RIGHT], [COUNT], [WET], [SOURCE, 2], [RIGHT])
        self.assertEqual(told, [[1], [1], [1], [0], [0], [1, 0], [0], [1]])


class Cut(unittest.TestCase):
    def test_the_cell_has_no_pipe_any_more(self):
        told = after(start(3, 1, 0, 0, "2a8"), [CUT, 1], [TEXT], [WET], [LEAKS], [PARTS], [LEAK, 0], [AT, 1], [ENDS])
        self.assertEqual(told, [[10], row_of("208\n"), [1, 0], [2], [2, 0, 2], [1, 1], [0, 0, 0, 0], [2, 0, 2]])

    def test_ways_are_of_what_is_left(self):
        first = start(4, 1, 0, 0, "1551")
        told = after(first, [COUNT], [CUT, 3], [COUNT], [CUT, 2], [CUT, 1], [CUT, 0], [COUNT], [NTH, 0])
        self.assertEqual(told, [[1], [1], [0], [5], [5], [1], [1], [4, 0, 0, 0, 0]])

    def test_a_ring_is_cut(self):
        told = after(start(2, 2, 0, 0, "6c\n39\n"), [RINGS], [CUT, 3], [RINGS], [WET], [LEAKS])
        self.assertEqual(told, [[1], [9], [0], [3, 0, 1, 2], [2]])

    def test_the_source(self):
        told = after(start(3, 1, 1, 0, "2a8"), [CUT, 1], [WET], [STATE], [AT, 1])
        self.assertEqual(told, [[10], [1, 1], [0, 3, 1, 1, 0, 0, 1, 0], [0, 0, 1, 0]])

    def test_a_cell_without_a_pipe(self):
        self.assertEqual(after(LINE, [CUT, 1], [CUT, 1], [STATE]), [[5], [0], [0, 3, 1, 0, 0, 0, 2, 0]])

    def test_refusals(self):
        told = after(LINE, [HOLD, 1], [CUT, 1], [CUT, 3], [CUT, MOST], [TEXT], [LET, 1], [CUT, 1], [HOLD, 1], [CUT, 1])
        self.assertEqual(told, [[1], [-17], [-22], [-22], row_of("151\n"), [0], [5], [1], [-17]])

    def test_what_was_cut_does_not_come_back_by_mix(self):
        told = after(LINE, [CUT, 1], mix("151"), mix("101"), mix("208"), [TURN, 1, 1], [TEXT])
        self.assertEqual(told, [[5], [-13], [0], [2], [0], row_of("208\n")])

    def test_turns_stay(self):
        self.assertEqual(after(LINE, [TURN, 1, 2], [CUT, 1], [STATE])[2], [2, 3, 1, 0, 0, 0, 2, 0])


class Ends(unittest.TestCase):
    def test_each_piece(self):
        for piece in range(16):
            told = [1, 0] if piece in (1, 2, 4, 8) else [0]
            for goes_round in (0, 1):
                self.assertEqual(after(start(1, 1, 0, goes_round, DIGITS[piece]), [ENDS]), [told], piece)

    def test_rising(self):
        told = after(start(4, 3, 0, 0, "1234\n5678\n9ab0\n"), [ENDS])
        self.assertEqual(told, [[4, 0, 1, 3, 7]])
        self.assertEqual(after(start(5, 1, 0, 0, "18420"), [ENDS]), [[4, 0, 1, 2, 3]])
        self.assertEqual(after(start(1, 5, 0, 0, "1\nf\n4\n0\n8"), [ENDS]), [[3, 0, 2, 4]])

    def test_turned_and_cut(self):
        told = after(LINE, [TURN, 0, 3], [HOLD, 2], [ENDS], [CUT, 0], [ENDS], [BACK], [ENDS])
        self.assertEqual(told, [[8], [1], [2, 0, 2], [8], [1, 2], [2], [2, 0, 2]])


class State(unittest.TestCase):
    def test_what_a_start_leaves(self):
        self.assertEqual(after(start(4, 3, 11, 1, "ffff\nffff\nffff\n"), [STATE]), [[0, 4, 3, 11, 1, 0, 0, 0]])
        self.assertEqual(after(start(1, 5, 2, 0, "0\n0\n0\n0\n0\n"), [STATE]), [[0, 1, 5, 2, 0, 0, 0, 0]])
        self.assertEqual(after(start(5, 1, 4, 1, "00000"), [STATE]), [[0, 5, 1, 4, 1, 0, 0, 0]])
        self.assertEqual(after(start(1, 1, 0, 0, "0"), [STATE]), [[0, 1, 1, 0, 0, 0, 0, 0]])

    def test_turns_of_turn(self):
        # Also of pieces that lie alike by it: straight by two quarters, the cross and no pipe by each.
        for digit in "0137f5":
            for quarters, turns in ((1, 1), (2, 2), (3, 1)):
                told = after(start(1, 1, 0, 0, digit), [TURN, 0, quarters], [STATE], [TURN, 0, 2], [STATE])
                self.assertEqual(told[1], [turns, 1, 1, 0, 0, 0, 1, 0])
                self.assertEqual(told[3], [turns + 2, 1, 1, 0, 0, 0, 2, 0])

    def test_turns_of_lay(self):
        told = after(LINE, [TURN, 2, 1], [LAY, 0], [STATE], [LAY, 0], [STATE], [TURN, 1, 2], [STATE], [LAY, 0], [STATE])
        self.assertEqual(told[:2], [[2], [4]])
        self.assertEqual([answer[0] for answer in told[2::2]], [5, 5, 7, 7])

    def test_turns_since_mix(self):
        told = after(LINE, [TURN, 0, 2], [LAY, 0], mix("151"), [STATE], [LAY, 0], [STATE], [TURN, 0, 1], [STATE])
        self.assertEqual([answer[0] for answer in told], [4, 3, 3, 0, 3, 3, 4, 4])

    def test_turns_taken_back(self):
        calls = [[TURN, 0, 2], [TURN, 0, 1], mix("151"), [LAY, 0]]
        for call in [[BACK]] * 4 + [[AGAIN]] * 4:
            calls.extend([call, [STATE]])
        told = after(LINE, *calls)
        self.assertEqual([answer[0] for answer in told[5::2]], [0, 3, 2, 0, 2, 3, 0, 3])

    def test_other_changes_are_no_turns(self):
        told = after(LINE, [TURN, 0, 1], [HOLD, 0], [LET, 0], [SOURCE, 1], [CUT, 2], [STATE])
        self.assertEqual(told[-1], [1, 3, 1, 1, 0, 0, 5, 0])

    def test_how_many_are_held(self):
        told = after(LINE, [HOLD, 0], [HOLD, 2], [STATE], [LET, 0], [STATE], [BACK], [STATE])
        self.assertEqual([told[2][5], told[4][5], told[6][5]], [2, 1, 2])

    def test_asking_for_it_changes_nothing(self):
        told = after(LINE, [TURN, 0, 1], [HOLD, 0], [BACK], [STATE], [STATE], [AGAIN], [STATE], [STATE])
        self.assertEqual(told[3], told[4])
        self.assertEqual(told[6], told[7])
        self.assertEqual(told[6], [1, 3, 1, 0, 0, 1, 2, 0])


if __name__ == "__main__":
    unittest.main()
