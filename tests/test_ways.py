import unittest

from tests.helper import (
    COUNT, HINT, HOLD, KNOWN, LAY, LET, MOST, NEAREST, NTH, RIGHT, SOURCE, STATE, SURE, TEXT, TURN, after, ask, start,
)
from turnedpipes.board import answers

# The text "151": the one way is right, across, left.
LINE = [0, 3, 1, 0, 0, 3, 49, 53, 49]

# Two ends above two elbows, going round. Each end is joined with the elbow that is both above and
# below it, the elbows with one another, to the left or to the right: 8 ways, in this order.
RING = start(2, 2, 0, 1, "11\n33\n")
RING_WAYS = (
    (1, 1, 6, 12), (1, 1, 12, 6), (1, 4, 6, 9), (1, 4, 12, 3), (4, 1, 3, 12), (4, 1, 9, 6), (4, 4, 3, 9), (4, 4, 9, 3),
)

# A cross with an elbow at each arm and an end in each corner, and a column without a pipe: all
# elbows go to the corner on their left, or all to that on their right.
WHEEL = start(4, 3, 0, 0, "1310\n3f30\n1310\n")
WHEEL_WAYS = ([2, 12, 4, 0, 6, 15, 9, 0, 1, 3, 8, 0], [4, 6, 8, 0, 3, 15, 12, 0, 2, 9, 1, 0])

# Two ends that go round: joined in the middle or round the edge.
PAIR = start(2, 1, 0, 1, "11")

ASKED = ([NTH, 0], [SURE, 0], [KNOWN], [NEAREST], [HINT], [LAY, 0])
NONE = [[-2], [-33], [-33], [-33], [-33], [-2]]


class ByHand(unittest.TestCase):
    def test_nth(self):
        self.assertEqual(answers(LINE + [14, 0, 14, 1]), [1, 3, 4, 3, 2, 10, 8, 1, -2])

    def test_sure(self):
        self.assertEqual(answers(LINE + [15, 1, 15, 3]), [1, 3, 1, 10, 1, -22])

    def test_known(self):
        self.assertEqual(answers(LINE + [16]), [1, 3, 4, 3, 0, 1, 2])

    def test_nearest(self):
        self.assertEqual(answers(LINE + [1, 2, 2, 17]), [1, 3, 1, 4, 4, 3, 2, 10, 8])
        self.assertEqual(answers(LINE + [1, 2, 1, 17]), [1, 3, 1, 2, 4, 4, 2, 10, 8])

    def test_hint(self):
        self.assertEqual(answers(LINE + [18]), [1, 3, 2, 0, 1])

    def test_lay(self):
        self.assertEqual(answers(LINE + [19, 0, 9]), [1, 3, 1, 3, 1, 1])


class Nth(unittest.TestCase):
    def test_each_in_its_order(self):
        told = after(RING, [COUNT], *[[NTH, k] for k in range(8)])
        self.assertEqual(told, [[8]] + [[4] + list(board) for board in RING_WAYS])

    def test_beyond_the_last(self):
        self.assertEqual(after(RING, [NTH, 7], [NTH, 8], [NTH, 9], [NTH, MOST]), [[4, 4, 4, 9, 3], [-2], [-2], [-2]])

    def test_on_twelve_cells(self):
        told = after(WHEEL, [NTH, 0], [NTH, 1], [NTH, 2])
        self.assertEqual(told, [[12] + WHEEL_WAYS[0], [12] + WHEEL_WAYS[1], [-2]])

    def test_the_order_is_from_how_it_lies_now(self):
        told = after(PAIR, [NTH, 0], [NTH, 1], [TURN, 0, 2], [NTH, 0], [NTH, 1], [NTH, 2])
        self.assertEqual(told, [[2, 2, 8], [2, 8, 2], [4], [2, 8, 2], [2, 2, 8], [-2]])

    def test_by_quarters_to_the_right_not_by_turns(self):
        # Cell 0 lies to the left: right is two quarters and two turns, down three quarters and one turn.
        told = after(start(4, 3, 0, 0, "8310\n3f30\n1310\n"), [NTH, 0], [NTH, 1], [NEAREST])
        self.assertEqual(told, [[12] + WHEEL_WAYS[0], [12] + WHEEL_WAYS[1], [7] + WHEEL_WAYS[1]])

    def test_the_first_cell_that_differs_counts(self):
        told = after(start(2, 2, 0, 1, "14\n69\n"), [NTH, 0], [NTH, 1], [NTH, 2], [NTH, 7])
        self.assertEqual(told, [[4, 1, 4, 6, 9], [4, 1, 4, 12, 3], [4, 1, 1, 6, 12], [4, 4, 1, 3, 12]])


class Sure(unittest.TestCase):
    def test_alike_in_all_ways(self):
        told = after(WHEEL, [SURE, 5], [SURE, 3], [SURE, 0], [SURE, 9], [SURE, 11])
        self.assertEqual(told, [[15], [0], [-6], [-6], [0]])

    def test_as_it_lies_there_not_now(self):
        self.assertEqual(after(LINE, [SURE, 0], [SURE, 1], [SURE, 2]), [[2], [10], [8]])

    def test_no_such_cell_first(self):
        told = after(start(2, 1, 0, 0, "1f"), [SURE, 2], [SURE, MOST], [SURE, 1])
        self.assertEqual(told, [[-22], [-22], [-33]])
        self.assertEqual(after(WHEEL, [SURE, 12], [SURE, 0]), [[-22], [-6]])

    def test_no_way_ahead_of_not_alike(self):
        # With cell 0 held as it lies there is none, though else it would lie in two ways.
        told = after(WHEEL, [SURE, 0], [HOLD, 0], [SURE, 0], [LET, 0], [SURE, 0])
        self.assertEqual(told, [[-6], [1], [-33], [0], [-6]])

    def test_what_is_held_makes_more_sure(self):
        told = after(RING, [SURE, 0], [KNOWN], [HOLD, 0], [SURE, 0], [KNOWN], [HOLD, 1], [SURE, 2], [KNOWN])
        self.assertEqual(told, [[-6], [0], [1], [1], [1, 0], [2], [-6], [2, 0, 1]])


class Known(unittest.TestCase):
    def test_rising(self):
        self.assertEqual(after(WHEEL, [KNOWN]), [[4, 3, 5, 7, 11]])

    def test_all_of_one_way(self):
        first = start(4, 3, 0, 0, "1551\n3553\n3551\n")
        self.assertEqual(after(first, [COUNT], [KNOWN]), [[0], [-33]])
        first = start(4, 3, 0, 0, "1553\n3553\n3551\n")
        self.assertEqual(after(first, [COUNT], [KNOWN]), [[1], [12] + list(range(12))])


class Nearest(unittest.TestCase):
    def test_of_two_as_near_the_first(self):
        # From the elbows as they lie it is 1 and 2, or 2 and 1, to the first two ways.
        self.assertEqual(after(RING, [NEAREST]), [[3, 1, 1, 6, 12]])
        self.assertEqual(after(WHEEL, [NEAREST]), [[8] + WHEEL_WAYS[0]])
        self.assertEqual(after(start(2, 1, 0, 1, "22"), [NEAREST]), [[2, 2, 8]])
        self.assertEqual(after(start(2, 1, 0, 1, "88"), [NEAREST]), [[2, 8, 2]])

    def test_not_the_first_where_another_is_nearer(self):
        # Turned to lie down and left cell 6 is still one turn from the first way, and lies as in the other.
        told = after(WHEEL, [TURN, 6, 2], [NTH, 0], [NEAREST])
        self.assertEqual(told, [[12], [12] + WHEEL_WAYS[0], [6] + WHEEL_WAYS[1]])

    def test_a_way_and_one_turn_from_it(self):
        # With cell 2 turned there are two ways at one turn: of these the first has cell 2 as it lies.
        told = after(start(2, 2, 0, 1, "44\n93\n"), [NEAREST], [TURN, 2, 1], [NEAREST], [TURN, 3, 3], [NEAREST])
        self.assertEqual(told, [[0, 4, 4, 9, 3], [3], [1, 4, 4, 3, 9], [9], [0, 4, 4, 3, 9]])

    def test_turns_to_the_left_are_as_good(self):
        self.assertEqual(after(start(3, 1, 0, 0, "4a1"), [NEAREST]), [[2, 2, 10, 8]])

    def test_a_piece_that_lies_alike_by_two_turns(self):
        self.assertEqual(after(start(3, 1, 0, 0, "258"), [NEAREST], [HINT]), [[1, 2, 10, 8], [1, 1]])
        self.assertEqual(after(start(3, 1, 0, 0, "2a8"), [TURN, 1, 2], [NEAREST], [HINT]), [[10], [0, 2, 10, 8], [-6]])

    def test_none_is_nearer(self):
        told = ask(RING, [NEAREST], *[call for k in range(8) for call in (RING, [LAY, k])])
        self.assertEqual([answer[0] for answer in told[3::2]], [3, 3, 4, 4, 4, 4, 5, 5])
        self.assertEqual(told[1][0], 3)


class Hint(unittest.TestCase):
    def test_by_each_number_of_quarters(self):
        self.assertEqual(after(PAIR, [HINT]), [[0, 1]])
        self.assertEqual(after(start(2, 1, 0, 1, "22"), [HINT]), [[1, 2]])
        self.assertEqual(after(start(2, 1, 0, 1, "12"), [HINT]), [[0, 3]])

    def test_the_least_cell_that_differs(self):
        self.assertEqual(after(RING, [HINT]), [[2, 1]])
        first = start(4, 3, 0, 0, "2aac\n6aa9\n3aa1\n")
        self.assertEqual(after(first, [HINT], [TURN, 11, 3], [HINT]), [[11, 3], [8], [-6]])

    def test_told_hints_lead_to_the_way(self):
        calls = [[HINT], [TURN, 0, 1], [HINT], [TURN, 1, 1], [HINT], [TURN, 2, 3], [HINT], [RIGHT]]
        self.assertEqual(after(LINE, *calls), [[0, 1], [2], [1, 1], [10], [2, 3], [8], [-6], [1]])

    def test_no_way_ahead_of_that_way_already(self):
        self.assertEqual(after(start(2, 1, 0, 0, "28"), [HINT]), [[-6]])
        self.assertEqual(after(start(2, 1, 0, 0, "2a"), [HINT]), [[-33]])
        self.assertEqual(after(start(2, 2, 0, 0, "6c\n39\n"), [HINT]), [[-33]])


class Lay(unittest.TestCase):
    def test_each_way(self):
        for k, turns in enumerate((3, 3, 4, 4, 4, 4, 5, 5)):
            told = after(RING, [LAY, k], [RIGHT], [NTH, 0], [NEAREST], [STATE])
            board = list(RING_WAYS[k])
            self.assertEqual(told, [[turns], [1], [4] + board, [0] + board, [turns, 2, 2, 0, 1, 0, 1, 0]])

    def test_beyond_the_last(self):
        told = after(RING, [LAY, 8], [LAY, MOST], [TEXT], [STATE])
        self.assertEqual(told, [[-2], [-2], [6, 49, 49, 10, 51, 51, 10], [0, 2, 2, 0, 1, 0, 0, 0]])

    def test_the_last_of_twelve_cells(self):
        told = after(WHEEL, [LAY, 2], [LAY, 1], [RIGHT], [NTH, 0], [LAY, 1], [NTH, 0], [NTH, 2])
        # From the one way to the other each end by 1 turn, each elbow too.
        self.assertEqual(told, [[-2], [8], [1], [12] + WHEEL_WAYS[1], [8], [12] + WHEEL_WAYS[0], [-2]])

    def test_what_is_held_stays(self):
        told = after(RING, [HOLD, 0], [HOLD, 1], [COUNT], [LAY, 2], [LAY, 1], [NTH, 0], [LET, 0], [LET, 1], [LET, 2])
        self.assertEqual(told, [[1], [2], [2], [-2], [3], [4, 1, 1, 12, 6], [1], [0], [-2]])

    def test_the_way_that_it_is_already(self):
        told = after(start(2, 1, 0, 0, "28"), [LAY, 0], [STATE], [LAY, 1])
        self.assertEqual(told, [[0], [0, 2, 1, 0, 0, 0, 1, 0], [-2]])


class Edges(unittest.TestCase):
    def test_one_cell(self):
        for goes_round in (0, 1):
            told = after(start(1, 1, 0, goes_round, "0"), *ASKED, [NTH, 1], [LAY, 1], [SURE, 1])
            self.assertEqual(told, [[1, 0], [0], [1, 0], [0, 0], [-6], [0], [-2], [-2], [-22]])
            for digit in "123456789abcdef":
                self.assertEqual(after(start(1, 1, 0, goes_round, digit), *ASKED, [SURE, 1]), NONE + [[-22]], digit)

    def test_five_by_one(self):
        told = after(start(5, 1, 4, 0, "15a51"), *ASKED, [STATE])
        board = [2, 10, 10, 10, 8]
        self.assertEqual(told[:3], [[5] + board, [2], [5, 0, 1, 2, 3, 4]])
        self.assertEqual(told[3:], [[4] + board, [0, 1], [4], [4, 5, 1, 4, 0, 0, 1, 0]])

    def test_one_by_five(self):
        told = after(start(1, 5, 4, 0, "8\n5\na\na\n4\n"), *ASKED, [STATE])
        board = [4, 5, 5, 5, 1]
        self.assertEqual(told[:3], [[5] + board, [4], [5, 0, 1, 2, 3, 4]])
        self.assertEqual(told[3:], [[5] + board, [0, 3], [5], [5, 1, 5, 4, 0, 0, 1, 0]])

    def test_lines_that_go_round(self):
        # An end, three straight ones, an end: round the edge or not they can't be joined otherwise.
        told = after(start(5, 1, 0, 1, "51155"), [COUNT], [NTH, 0], [NTH, 1], [NEAREST], [KNOWN])
        board = [10, 8, 2, 10, 10]
        self.assertEqual(told, [[1], [5] + board, [-2], [5] + board, [5, 0, 1, 2, 3, 4]])
        told = after(start(1, 5, 0, 1, "a\n2\n2\na\na\n"), [COUNT], [NTH, 0], [NTH, 1], [NEAREST], [KNOWN])
        board = [5, 1, 4, 5, 5]
        self.assertEqual(told, [[1], [5] + board, [-2], [5] + board, [5, 0, 1, 2, 3, 4]])

    def test_a_ring_that_is_wet_leaves_none(self):
        self.assertEqual(after(start(2, 2, 0, 0, "6c\n39\n"), *ASKED), NONE)
        self.assertEqual(after(start(2, 1, 0, 1, "aa"), *ASKED), NONE)

    def test_a_source_without_a_pipe(self):
        told = after(start(3, 1, 0, 0, "028"), *ASKED, [SOURCE, 2], [NTH, 0], [SURE, 0], [HINT])
        self.assertEqual(told, NONE + [[0], [3, 0, 2, 8], [0], [-6]])

    def test_a_board_without_any_pipe(self):
        for goes_round in (0, 1):
            told = after(start(3, 4, 11, goes_round, "000\n000\n000\n000\n"), *ASKED)
            zeros = [0] * 12
            self.assertEqual(told, [[12] + zeros, [0], [12] + list(range(12)), [0] + zeros, [-6], [0]])

    def test_a_held_piece_leaves_no_way(self):
        told = after(LINE, [HOLD, 1], *ASKED, [LET, 1], [NTH, 0])
        self.assertEqual(told, [[1]] + NONE + [[0], [3, 2, 10, 8]])

    def test_all_held(self):
        holds = [[HOLD, cell] for cell in range(3)]
        told = after(start(3, 1, 0, 0, "2a8"), *holds, *ASKED)[3:]
        self.assertEqual(told, [[3, 2, 10, 8], [2], [3, 0, 1, 2], [0, 2, 10, 8], [-6], [0]])

    def test_asking_changes_nothing(self):
        asked = [[NTH, 3], [SURE, 0], [KNOWN], [NEAREST], [HINT], [STATE], [TEXT]]
        told = after(RING, [HOLD, 3], [LET, 3], [TURN, 0, 1], *(asked * 3))[3:]
        self.assertEqual(told[:7], told[7:14])
        self.assertEqual(told[:7], told[14:])


if __name__ == "__main__":
    unittest.main()
