"""What is answered, held against the helper's model.

The boards are the same each time: they come of a seed.
"""

import random
import unittest

from tests.helper import (
    AT, COUNT, HINT, KNOWN, LAY, LEAK, LEAKS, NEAREST, NTH, PART, PARTS, RIGHT, RINGS, SURE, TURN, WAY, WET,
    Model, ask, begun, random_model, row, sizes, spun, text_of, tree_model,
)


class Compared(unittest.TestCase):
    def compare_asked(self, model):
        cells = range(len(model.pieces))
        calls = [[WET], [LEAKS], [RINGS], [RIGHT], [PARTS]]
        told = [row(model.part(model.source)), [len(model.leaks())], [model.rings()], [int(model.right())],
                row([part[0] for part in model.parts()])]
        for cell in cells:
            leaking = [d for end, d in model.leaks() if end == cell]
            is_wet = int(cell in model.part(model.source))
            calls.extend([[AT, cell], [LEAK, cell], [PART, cell]])
            told.extend([[model.pieces[cell], len(leaking), is_wet, int(cell in model.held)], row(leaking),
                         row(model.part(cell))])
            other = (cell * 5 + 3) % len(cells)
            way = model.way(cell, other)
            calls.append([WAY, cell, other])
            told.append([-6] if way is None else row(way))
        first = begun(model)
        self.assertEqual(ask(*first, *calls)[len(first):], told, (text_of(model), model.source, model.goes_round))

    def test_what_is_asked(self):
        dice = random.Random(1)
        for time in range(150):
            self.compare_asked(random_model(dice, dice.choice(sizes(12))))
            self.compare_asked(tree_model(dice, dice.choice(sizes(12))))

    def compare_ways(self, model, ways):
        cells = range(len(model.pieces))
        places = list(range(min(len(ways), 120)))
        calls = [[COUNT], [NTH, len(ways)]] + [[NTH, k] for k in places] + [[SURE, cell] for cell in cells]
        told = [[len(ways)], [-2]] + [row(ways[k]) for k in places]
        if ways:
            alike = [cell for cell in cells if len({board[cell] for board in ways}) == 1]
            told += [[ways[0][cell]] if cell in alike else [-6] for cell in cells]
            least = min(model.turns(board) for board in ways)
            near = [board for board in ways if model.turns(board) == least][0]
            differ = [(cell, quarters) for cell, quarters in enumerate(model.quarters(near)) if quarters]
            told += [row(alike), [least] + near, list(differ[0]) if differ else [-6]]
        else:
            told += [[-33]] * (len(cells) + 3)
        asked = ask(*begun(model), *calls, [KNOWN], [NEAREST], [HINT])[-len(told):]
        self.assertEqual(asked, told, (text_of(model), model.source, model.goes_round, model.held))

    def test_ways_by_turning(self):
        dice = random.Random(2)
        for make in (random_model, tree_model):
            for time in range(120):
                model = make(dice, dice.choice(sizes(4)))
                model.held = {cell for cell in range(len(model.pieces)) if dice.randrange(4) == 0}
                ways = model.ways_by_turning()
                self.assertEqual(model.ways_by_joints(), ways)
                self.compare_ways(model, ways)

    def test_ways_by_joints(self):
        dice = random.Random(3)
        for time in range(60):
            model = tree_model(dice, dice.choice(sizes(10)))
            self.compare_ways(model, model.ways_by_joints())
            model.held = {dice.randrange(len(model.pieces))}
            self.compare_ways(model, model.ways_by_joints())

    def test_ways_on_twelve_cells(self):
        dice = random.Random(4)
        for time in range(12):
            model = tree_model(dice, dice.choice(((4, 3), (3, 4))))
            self.compare_ways(model, model.ways_by_joints())

    def test_all_ways_are_right(self):
        dice = random.Random(6)
        for time in range(30):
            model = tree_model(dice, dice.choice(sizes(12)))
            first = begun(model)
            many = ask(*first, [COUNT])[-1][0]
            for k in range(min(many, 20)):
                told = ask(*first, [LAY, k], [RIGHT], [LEAKS], [RINGS])[-3:]
                self.assertEqual(told, [[1], [0], [0]], (text_of(model), k))

    def test_a_right_board_has_one_joint_fewer_than_cells_with_a_pipe(self):
        model = Model(4, 3, 0, 0, [2, 10, 10, 12, 6, 10, 10, 9, 3, 10, 10, 8])
        self.assertEqual((len(model.joints()), model.right()), (11, True))
        self.assertEqual(ask(*begun(model), [RIGHT])[-1], [1])

    def test_turned_boards(self):
        dice = random.Random(5)
        for time in range(40):
            model = random_model(dice, dice.choice(sizes(12)))
            calls = begun(model)
            for step in range(10):
                cell, quarters = dice.randrange(len(model.pieces)), dice.randrange(1, 4)
                model.pieces[cell] = spun(model.pieces[cell], quarters)
                calls.append([TURN, cell, quarters])
            told = ask(*calls, [WET], [LEAKS], [RINGS])[-3:]
            self.assertEqual(told, [row(model.part(model.source)), [len(model.leaks())], [model.rings()]])


if __name__ == "__main__":
    unittest.main()
