import contextlib
import io
import unittest

from tests.helper import (
    AGAIN, AT, BACK, COUNT, CUT, ENDS, HINT, HOLD, KNOWN, LAY, LEAK, LEAKS, LET, NEAREST, NTH, PART, PARTS, RIGHT, RINGS,
    SOURCE, STATE, SURE, TEXT, TURN, WAY, WET, ask, flat, mix, split, start,
)
from turnedpipes.board import answers

EACH = [
    start(4, 3, 5, 1, "2aac\n6aa9\n3aa8\n"), [TURN, 0, 1], [HOLD, 3], [TURN, 3, 1], [LET, 3], [AT, 3], [WET], [LEAK, 0],
    [LEAKS], [RINGS], [PARTS], [PART, 7], [WAY, 1, 9], [COUNT], [RIGHT], [NTH, 0], [SURE, 5], [KNOWN], [NEAREST], [HINT],
    [LAY, 0], [TEXT], mix("2aac\n6aa9\n3aa4\n"), mix("x"), [SOURCE, 11], [CUT, 0], [ENDS], [BACK], [BACK], [AGAIN], [STATE],
    start(9, 9, 9, 9, "x"), start(2, 1, 0, 0, "28"), [WET], [AT, 2], [BACK], [STATE],
]
CALLS = flat(EACH)


class Unchangeable(list):
    def refuse(self, *given):
        raise AssertionError("what is handed in is changed")

    __setitem__ = __delitem__ = __iadd__ = __imul__ = refuse
    append = extend = insert = pop = remove = clear = sort = reverse = refuse


class Interface(unittest.TestCase):
    def test_what_is_handed_in_stays_as_it_was(self):
        given = list(CALLS)
        answers(given)
        self.assertEqual(given, CALLS)
        self.assertEqual(answers(Unchangeable(CALLS)), answers(CALLS))

    def test_a_second_time_answers_the_same(self):
        first = answers(CALLS)
        answers(flat([start(1, 1, 0, 0, "f"), [HOLD, 0]]))
        self.assertEqual(answers(CALLS), first)

    def test_what_is_given_back_is_the_askers_own(self):
        first = answers(CALLS)
        kept = list(first)
        first.clear()
        self.assertEqual(answers(CALLS), kept)

    def test_nothing_is_kept_from_one_time_to_the_next(self):
        answers(flat([start(2, 1, 0, 0, "28"), [HOLD, 0]]))
        self.assertEqual(ask([WET]), [[-61]])
        self.assertEqual(ask(start(2, 1, 0, 0, "28"), [AT, 0]), [[2], [2, 0, 1, 0]])

    def test_a_list_of_plain_whole_numbers(self):
        told = answers(CALLS)
        self.assertIs(type(told), list)
        self.assertEqual({type(number) for number in told}, {int})

    def test_a_refusal_is_one_number_alone(self):
        for answer in split(answers(CALLS)):
            if min(answer) < 0:
                self.assertEqual(len(answer), 1)

    def test_nothing_is_printed(self):
        out, err = io.StringIO(), io.StringIO()
        with contextlib.redirect_stdout(out), contextlib.redirect_stderr(err):
            answers(CALLS)
        self.assertEqual((out.getvalue(), err.getvalue()), ("", ""))

    def test_one_call(self):
        self.assertEqual(answers([5]), [1, -61])
        self.assertEqual(answers([0, 0, 0, 0, 0, 0]), [1, -22])
        self.assertEqual(answers([0, 1, 1, 0, 0, 0]), [1, -71])

    def test_two_hundred_calls(self):
        turns = [[TURN, 0, 1 + place % 3] for place in range(199)]
        piece = 1
        told = [[1]]
        for turn in turns:
            for quarter in range(turn[2]):
                piece = {1: 2, 2: 4, 4: 8, 8: 1}[piece]
            told.append([piece])
        self.assertEqual(ask(start(1, 1, 0, 0, "1"), *turns), told)

    def test_a_list_as_long_as_may_be(self):
        calls = flat([start(4, 3, 0, 0, [49] * 100)] * 198 + [[WET]] * 2)
        self.assertEqual(len(calls), 20990)
        self.assertEqual(answers(calls), [1, -71] * 198 + [1, -61] * 2)

    def test_two_hundred_calls_that_count(self):
        # Each time anew: a turn lies between any two.
        calls = [start(4, 3, 0, 1, "2aac\n6aa9\n3aa8\n")]
        for place in range(99):
            calls.extend([[TURN, place % 12, 1], [COUNT]])
        told = ask(*calls, [COUNT])
        self.assertEqual(len({answer[0] for answer in told[2::2]}), 1)

    def test_two_hundred_calls_that_ask_for_ways(self):
        # Of 32 ways, as all joints between the two lines can be on either side.
        calls = [start(5, 2, 0, 1, "b6119\n129e9\n")]
        for place in range(33):
            calls.extend([[TURN, place % 10, 1], [NTH, place], [NEAREST], [HINT], [KNOWN], [SURE, place % 10]])
        told = ask(*calls, [COUNT])
        self.assertEqual(len(told), 200)
        self.assertEqual(told[-1], [32])
        self.assertEqual([answer[0] for answer in told[2::6]], [10] * 32 + [-2])

    def test_every_call_is_among_these(self):
        self.assertEqual({call[0] for call in EACH}, set(range(28)))
        self.assertEqual(len(split(answers(CALLS))), len(EACH))


if __name__ == "__main__":
    unittest.main()
