import unittest

from tests.helper import (
    AGAIN, AT, BACK, COUNT, CUT, ENDS, HINT, HOLD, KNOWN, LAY, LEAK, LEAKS, LET, MOST, NEAREST, NTH, PART, PARTS, RIGHT,
    RINGS, SOURCE, STATE, SURE, TEXT, TURN, WAY, WET, after, ask, mix, start,
)
from turnedpipes.board import answers

# The text "151".
LINE = [0, 3, 1, 0, 0, 3, 49, 53, 49]

# A cross with an elbow at each arm and an end in each corner, and a column without a pipe: two ways.
WHEEL = start(4, 3, 0, 0, "1310\n3f30\n1310\n")

# One end on one cell.
END = start(1, 1, 0, 0, "1")

ASKED = [[AT, cell] for cell in range(3)] + [
    [WET], [LEAKS], [LEAK, 1], [RINGS], [RIGHT], [PARTS], [PART, 1], [WAY, 0, 1], [COUNT], [NTH, 0], [SURE, 1], [KNOWN],
    [NEAREST], [HINT], [TEXT], [ENDS],
]


def looked(first, *calls):
    # How it is behind these calls: all that can be asked, and state without how many can be taken back or done again.
    told = after(first, *calls, *ASKED, [STATE])[len(calls):]
    return told[:-1] + [told[-1][:6]]


class ByHand(unittest.TestCase):
    def test_back(self):
        self.assertEqual(answers(LINE + [1, 0, 1, 2, 1, 25, 25, 25]), [1, 3, 1, 2, 1, 1, 1, 1, 1, 0, 1, -2])

    def test_again(self):
        calls = [1, 0, 1, 2, 1, 25, 25, 26, 26, 26]
        self.assertEqual(answers(LINE + calls), [1, 3, 1, 2, 1, 1, 1, 1, 1, 0, 1, 1, 1, 0, 1, -2])

    def test_the_last_is_taken_back_first(self):
        told = after(LINE, [TURN, 0, 1], [TURN, 0, 1], [TURN, 2, 1], [BACK], [TEXT], [BACK], [TEXT], [BACK], [TEXT])
        self.assertEqual(told[3:], [
            [2], [4, 52, 53, 49, 10], [1], [4, 50, 53, 49, 10], [0], [4, 49, 53, 49, 10],
        ])

    def test_what_was_taken_back_last_is_done_again_first(self):
        told = after(LINE, [TURN, 0, 1], [TURN, 2, 2], [BACK], [BACK], [AGAIN], [TEXT], [AGAIN], [TEXT])
        self.assertEqual(told[4:], [[1], [4, 50, 53, 49, 10], [0], [4, 50, 53, 52, 10]])


class EachChange(unittest.TestCase):
    def check(self, first, ahead, change, told):
        before = looked(first, *ahead)
        behind = looked(first, *ahead, change)
        self.assertNotEqual(before, behind)
        self.assertEqual(looked(first, *ahead, change, [BACK]), before)
        self.assertEqual(looked(first, *ahead, change, [BACK], [AGAIN]), behind)
        self.assertEqual(looked(first, *ahead, change, [BACK], [AGAIN], [BACK]), before)
        many = len(ahead)
        asked = after(first, *ahead, change, [STATE], [BACK], [STATE], [AGAIN], [STATE])[many:]
        self.assertEqual([asked[0], asked[2], asked[4]], [[told], [many], [0]])
        self.assertEqual([asked[place][6:] for place in (1, 3, 5)], [[many + 1, 0], [many, 1], [many + 1, 0]])

    def test_turn(self):
        for quarters, told in ((1, 2), (2, 4), (3, 8)):
            self.check(LINE, [], [TURN, 0, quarters], told)
            self.check(WHEEL, [[TURN, 0, 1], [TURN, 0, 3], [HOLD, 1]], [TURN, 8, quarters], told)

    def test_turn_of_a_piece_that_lies_alike(self):
        self.check(LINE, [], [TURN, 1, 2], 5)
        self.check(WHEEL, [[HOLD, 1]], [TURN, 3, 1], 0)

    def test_hold(self):
        self.check(LINE, [], [HOLD, 1], 1)
        self.check(WHEEL, [[HOLD, 5], [HOLD, 2]], [HOLD, 0], 3)

    def test_let(self):
        self.check(LINE, [[HOLD, 1]], [LET, 1], 0)
        self.check(WHEEL, [[HOLD, 5], [HOLD, 2], [HOLD, 0]], [LET, 2], 2)

    def test_lay(self):
        self.check(LINE, [], [LAY, 0], 3)
        self.check(WHEEL, [[TURN, 1, 1], [HOLD, 5]], [LAY, 1], 7)

    def test_mix(self):
        self.check(LINE, [[TURN, 0, 1], [TURN, 1, 2]], mix("151"), 1)
        self.check(WHEEL, [[LAY, 0], [HOLD, 5]], mix("1310\n3f30\n1310\n"), 8)

    def test_mix_to_the_same_board(self):
        self.check(LINE, [[TURN, 0, 1]], mix("251"), 0)

    def test_source(self):
        self.check(LINE, [], [SOURCE, 2], 0)
        self.check(WHEEL, [[SOURCE, 11], [TURN, 0, 1]], [SOURCE, 2], 11)

    def test_cut(self):
        self.check(LINE, [], [CUT, 1], 5)
        self.check(WHEEL, [[HOLD, 1], [TURN, 0, 1]], [CUT, 5], 15)

    def test_changes_that_leave_all_as_it_was(self):
        # They weren't refused, so they are changes.
        told = after(start(2, 1, 0, 0, "20"), [SOURCE, 0], [CUT, 1], mix("20"), [STATE], [BACK], [BACK], [BACK], [BACK])
        self.assertEqual(told, [[0], [0], [0], [0, 2, 1, 0, 0, 0, 3, 0], [2], [1], [0], [-2]])
        told = after(start(2, 1, 0, 0, "28"), [LAY, 0], [STATE], [BACK], [STATE], [AGAIN])
        self.assertEqual(told, [[0], [0, 2, 1, 0, 0, 0, 1, 0], [0], [0, 2, 1, 0, 0, 0, 0, 1], [0]])

    def test_all_seven_in_one_row(self):
        changes = [[TURN, 0, 2], [HOLD, 2], [SOURCE, 1], [LET, 2], mix("858"), [LAY, 0], [CUT, 2]]
        looks = [looked(LINE, *changes[:many]) for many in range(8)]
        told = after(LINE, *changes)
        self.assertEqual(told, [[4], [1], [0], [0], [2], [3], [8]])
        for many in range(8):
            backs = [[BACK]] * many
            self.assertEqual(looked(LINE, *changes, *backs), looks[7 - many])
            self.assertEqual(looked(LINE, *changes, *[[BACK]] * 7, *[[AGAIN]] * many), looks[many])
        told = after(LINE, *changes, *[[BACK]] * 8, *[[AGAIN]] * 8)[7:]
        self.assertEqual(told, [[6], [5], [4], [3], [2], [1], [0], [-2]] * 2)


class Most(unittest.TestCase):
    def test_twenty_of_more_can_be_taken_back(self):
        turns = [[TURN, 0, 1]] * 25
        told = after(END, *turns, [STATE], *[[BACK]] * 21, [STATE], [AT, 0])[25:]
        self.assertEqual(told[0], [25, 1, 1, 0, 0, 0, 20, 0])
        self.assertEqual(told[1:22], [[many] for many in range(19, -1, -1)] + [[-2]])
        # 5 turns are left: the piece lies as by one.
        self.assertEqual(told[22:], [[5, 1, 1, 0, 0, 0, 0, 20], [2, 1, 1, 0]])

    def test_all_of_these_can_be_done_again(self):
        turns = [[TURN, 0, 1]] * 25
        told = after(END, *turns, *[[BACK]] * 20, *[[AGAIN]] * 21, [STATE], [AT, 0], [BACK])[45:]
        self.assertEqual(told[:21], [[many] for many in range(19, -1, -1)] + [[-2]])
        self.assertEqual(told[21:], [[25, 1, 1, 0, 0, 0, 20, 0], [2, 1, 1, 0], [19]])

    def test_exactly_twenty(self):
        told = after(END, *[[TURN, 0, 1]] * 20, *[[BACK]] * 21, [AT, 0])[20:]
        self.assertEqual(told, [[many] for many in range(19, -1, -1)] + [[-2], [1, 1, 1, 0]])

    def test_twenty_one(self):
        told = after(END, *[[TURN, 0, 1]] * 21, *[[BACK]] * 21, [AT, 0])[21:]
        self.assertEqual(told, [[many] for many in range(19, -1, -1)] + [[-2], [2, 1, 1, 0]])

    def test_what_is_forgotten_does_not_come_back(self):
        told = after(END, *[[TURN, 0, 1]] * 25, *[[BACK]] * 5, [STATE], [HOLD, 0], [STATE], *[[BACK]] * 17, [STATE])[30:]
        self.assertEqual(told[:3], [[20, 1, 1, 0, 0, 0, 15, 5], [1], [20, 1, 1, 0, 0, 1, 16, 0]])
        self.assertEqual(told[3:], [[many] for many in range(15, -1, -1)] + [[-2], [5, 1, 1, 0, 0, 0, 0, 16]])

    def test_of_every_change(self):
        changes = [[TURN, 0, 1], [HOLD, 1], [SOURCE, 2], [LET, 1], mix("151"), [LAY, 0], [TURN, 1, 2]] * 3 + [[CUT, 1]]
        looks = [looked(LINE, *changes[:many]) for many in range(23)]
        for many in range(21):
            self.assertEqual(looked(LINE, *changes, *[[BACK]] * many), looks[22 - many])
            self.assertEqual(looked(LINE, *changes, *[[BACK]] * 20, *[[AGAIN]] * many), looks[2 + many])
        self.assertEqual(after(LINE, *changes, *[[BACK]] * 21)[-2:], [[0], [-2]])

    def test_two_hundred_calls(self):
        told = after(END, *[[TURN, 0, 1]] * 139, *[[BACK]] * 20, *[[AGAIN]] * 20, *[[BACK]] * 19, [STATE])
        self.assertEqual(told[-1], [120, 1, 1, 0, 0, 0, 1, 19])


class AnotherChange(unittest.TestCase):
    def test_leaves_nothing_to_be_done_again(self):
        ahead = [[HOLD, 2], [TURN, 0, 1], [TURN, 0, 1], [BACK]]
        for other in ([TURN, 0, 1], [HOLD, 1], [LET, 2], [LAY, 0], mix("1a8"), [SOURCE, 1], [CUT, 1]):
            told = after(start(3, 1, 0, 0, "2a8"), *ahead, [STATE], other, [STATE], [AGAIN])[4:]
            self.assertEqual(told[0][6:], [2, 1], other)
            self.assertGreaterEqual(told[1][0], 0, other)
            self.assertEqual([told[2][6:], told[3]], [[3, 0], [-2]], other)

    def test_a_lay(self):
        told = after(LINE, [TURN, 0, 1], [BACK], [LAY, 0], [AGAIN], [BACK], [AGAIN], [TEXT])
        self.assertEqual(told, [[2], [0], [3], [-2], [0], [0], [4, 50, 97, 56, 10]])

    def test_the_same_change_is_another(self):
        told = after(LINE, [TURN, 0, 1], [TURN, 0, 1], [BACK], [BACK], [TURN, 0, 1], [STATE], [AGAIN])
        self.assertEqual(told[4:], [[2], [1, 3, 1, 0, 0, 0, 1, 0], [-2]])

    def test_back_and_again_between(self):
        changes = [[TURN, 0, 1], [CUT, 1], [SOURCE, 2]]
        told = after(LINE, *changes, [BACK], [BACK], [AGAIN], [HOLD, 0], [BACK], [AGAIN], [STATE])
        self.assertEqual(told[3:], [[2], [1], [1], [1], [2], [0], [1, 3, 1, 0, 0, 1, 3, 0]])


class Refused(unittest.TestCase):
    # Behind these cell 0 is held, three changes can be taken back, and one (the let) be done again.
    BEHIND = [[HOLD, 0], [TURN, 1, 1], [TURN, 2, 2], [LET, 0], [BACK]]
    REFUSALS = (
        ([TURN, 0, 0], -22), ([TURN, 1, 4], -22), ([TURN, 3, 1], -22), ([TURN, MOST, MOST], -22), ([TURN, 0, 1], -17),
        ([HOLD, 3], -22), ([HOLD, 0], -17), ([LET, 3], -22), ([LET, 1], -2), ([LAY, 0], -2), ([LAY, MOST], -2),
        (mix("15"), -71), (mix("1a5"), -13), (mix("252"), -17), ([SOURCE, 3], -22), ([SOURCE, MOST], -22),
        ([CUT, 3], -22), ([CUT, 0], -17), ([AT, 3], -22), ([LEAK, 3], -22), ([PART, 3], -22), ([WAY, 0, 3], -22),
        ([WAY, 3, 0], -22), ([WAY, 0, 2], -6), ([NTH, 0], -2), ([SURE, 3], -22), ([SURE, 0], -33), ([KNOWN], -33),
        ([NEAREST], -33), ([HINT], -33), (start(0, 1, 0, 0, "1"), -22), (start(1, 1, 0, 0, "11"), -71),
        (start(3, 1, 3, 0, "151"), -22), (start(3, 1, 0, 2, "151"), -22),
    )

    def test_changes_nothing_and_is_no_change(self):
        before = looked(LINE, *self.BEHIND)
        for call, number in self.REFUSALS:
            told = after(LINE, *self.BEHIND, call, [STATE], [AGAIN], [STATE])[5:]
            self.assertEqual(told, [[number], [3, 3, 1, 0, 0, 1, 3, 1], [0], [3, 3, 1, 0, 0, 0, 4, 0]], call)
            self.assertEqual(looked(LINE, *self.BEHIND, call), before, call)

    def test_all_of_them_behind_one_another(self):
        told = after(LINE, *self.BEHIND, *[call for call, number in self.REFUSALS], [STATE], [BACK], [BACK], [BACK])[5:]
        self.assertEqual(told[:len(self.REFUSALS)], [[number] for call, number in self.REFUSALS])
        self.assertEqual(told[len(self.REFUSALS):], [[3, 3, 1, 0, 0, 1, 3, 1], [2], [1], [0]])

    def test_back_and_again_refused(self):
        before = looked(LINE)
        told = after(LINE, [BACK], [AGAIN], [STATE], [TURN, 0, 1], [AGAIN], [STATE], [BACK], [BACK], [STATE])
        self.assertEqual(told, [
            [-2], [-2], [0, 3, 1, 0, 0, 0, 0, 0], [2], [-2], [1, 3, 1, 0, 0, 0, 1, 0], [0], [-2], [0, 3, 1, 0, 0, 0, 0, 1],
        ])
        self.assertEqual(looked(LINE, [BACK], [AGAIN]), before)

    def test_not_begun(self):
        self.assertEqual(ask([BACK], [AGAIN], [STATE], start(6, 1, 0, 0, "1"), [BACK]), [[-61]] * 3 + [[-22], [-61]])


class Start(unittest.TestCase):
    def test_a_second_one_leaves_no_changes(self):
        told = ask(
            start(2, 1, 1, 1, "28"), [TURN, 0, 1], [HOLD, 1], [SOURCE, 0], [BACK], [STATE],
            start(3, 1, 0, 0, "2a8"), [STATE], [BACK], [AGAIN], [TURN, 1, 1], [STATE],
        )
        self.assertEqual(told[5:], [
            [1, 2, 1, 1, 1, 1, 2, 1], [3], [0, 3, 1, 0, 0, 0, 0, 0], [-2], [-2], [5], [1, 3, 1, 0, 0, 0, 1, 0],
        ])

    def test_the_same_one_again(self):
        told = ask(LINE, [LAY, 0], [HOLD, 0], [BACK], LINE, [STATE], [TEXT], [AGAIN], [BACK])
        self.assertEqual(told[4:], [[3], [0, 3, 1, 0, 0, 0, 0, 0], [4, 49, 53, 49, 10], [-2], [-2]])

    def test_a_refused_one_leaves_all(self):
        for refused in (start(5, 3, 0, 0, "1"), start(1, 1, 1, 0, "1"), start(1, 1, 0, 2, "1"), start(1, 1, 0, 0, "x")):
            told = ask(LINE, [TURN, 0, 2], [HOLD, 2], [SOURCE, 1], [BACK], refused, [STATE], [AGAIN], [BACK], [BACK], [BACK])
            self.assertEqual(told[6:], [[2, 3, 1, 0, 0, 1, 2, 1], [0], [2], [1], [0]])


if __name__ == "__main__":
    unittest.main()
