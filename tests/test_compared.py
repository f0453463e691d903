"""What is answered, held against a model that is written as plainly as the document's words.

The boards are the same each time: they come of a seed.
"""

import itertools
import random
import unittest

from tests.helper import AT, COUNT, HOLD, LEAK, LEAKS, PART, PARTS, RIGHT, RINGS, TURN, WAY, WET, ask, start

STEPS = ((0, -1), (1, 0), (0, 1), (-1, 0))


class Model:
    def __init__(self, width, height, source, goes_round, pieces):
        self.width = width
        self.height = height
        self.source = source
        self.goes_round = goes_round
        self.pieces = list(pieces)
        self.held = set()

    def beside(self, cell, direction):
        x = cell % self.width + STEPS[direction][0]
        y = cell // self.width + STEPS[direction][1]
        if self.goes_round:
            x, y = x % self.width, y % self.height
        elif x not in range(self.width) or y not in range(self.height):
            return None
        return y * self.width + x

    def arms(self):
        return {(cell, d) for cell, piece in enumerate(self.pieces) for d in range(4) if piece >> d & 1}

    def joints(self):
        arms = self.arms()
        other = {arm: (self.beside(*arm), (arm[1] + 2) % 4) for arm in arms}
        return {frozenset((arm, other[arm])) for arm in arms if other[arm] in arms}

    def leaks(self):
        return sorted(self.arms() - {arm for joint in self.joints() for arm in joint})

    def pairs(self):
        return {tuple(sorted({cell for cell, d in joint})) for joint in self.joints()}

    def part(self, cell):
        found = {cell}
        while True:
            more = {end for pair in self.pairs() if found & set(pair) for end in pair} | found
            if more == found:
                return sorted(found)
            found = more

    def piped(self):
        return [cell for cell, piece in enumerate(self.pieces) if piece]

    def parts(self):
        return sorted({tuple(self.part(cell)) for cell in self.piped()})

    def rings(self):
        return len(self.joints()) + len(self.parts()) - len(self.piped())

    def right(self):
        return not self.leaks() and set(self.piped()) <= set(self.part(self.source)) and self.rings() == 0

    def way(self, begun, to):
        pairs = self.pairs()
        paths = [(begun,)]
        while paths:
            done = [path for path in paths if path[-1] == to]
            if done:
                return min(done)
            paths = [
                path + (cell,) for path in paths for cell in range(len(self.pieces))
                if cell not in path and tuple(sorted((path[-1], cell))) in pairs
            ]
        return None

    def lies(self, cell):
        piece = self.pieces[cell]
        turned = {(piece << n | piece >> 4 - n) & 15 for n in range(4)}
        return {piece} if cell in self.held else turned

    def count_by_turning(self):
        found = 0
        for pieces in itertools.product(*[sorted(self.lies(cell)) for cell in range(len(self.pieces))]):
            board = Model(self.width, self.height, self.source, self.goes_round, pieces)
            found += board.right()
        return found

    def count_by_joints(self):
        # All sets of joints that make a tree of the cells with a pipe, asked whether the pieces can lie so.
        joints = []
        for cell, d in itertools.product(range(len(self.pieces)), (1, 2)):
            if self.beside(cell, d) not in (None, cell):
                joints.append((cell, d, self.beside(cell, d)))
        lies = [self.lies(cell) for cell in range(len(self.pieces))]
        piped = self.piped()
        if piped and self.source not in piped:
            return 0
        return tree_count(joints, lies, piped)


def tree_count(joints, lies, piped):
    most = [max(bin(piece).count("1") for piece in some) for some in lies]
    wanted = max(0, len(piped) - 1)

    def counted(place, chosen, roots, pieces):
        if chosen == wanted:
            return int(all(piece in some for piece, some in zip(pieces, lies)))
        if len(joints) - place < wanted - chosen:
            return 0
        found = counted(place + 1, chosen, roots, pieces)
        cell, d, other = joints[place]
        longer = list(pieces)
        longer[cell] |= 1 << d
        longer[other] |= 1 << (d + 2) % 4
        if roots[cell] != roots[other] and all(bin(longer[end]).count("1") <= most[end] for end in (cell, other)):
            merged = [roots[cell] if root == roots[other] else root for root in roots]
            found += counted(place + 1, chosen + 1, merged, longer)
        return found

    return counted(0, 0, list(range(len(lies))), [0] * len(lies))


def text_of(model):
    digits = "".join("0123456789abcdef"[piece] for piece in model.pieces)
    return "".join(digits[row * model.width:(row + 1) * model.width] + "\n" for row in range(model.height))


def sizes(most):
    return [(w, h) for w in range(1, 6) for h in range(1, 6) if w * h <= most]


def random_model(dice, size):
    width, height = size
    few = dice.choice(([0, 1, 2, 3, 5, 6], list(range(16)), [7, 11, 13, 14, 15]))
    pieces = [dice.choice(few) for cell in range(width * height)]
    return Model(width, height, dice.randrange(width * height), dice.randrange(2), pieces)


def tree_model(dice, size):
    # A board that can be turned right: a tree grown joint by joint, then each piece turned.
    width, height = size
    cells = width * height
    model = Model(width, height, 0, dice.randrange(2), [0] * cells)
    grown = [dice.randrange(cells)]
    for step in range(cells * 6):
        cell, d = dice.choice(grown), dice.randrange(4)
        other = model.beside(cell, d)
        if other is not None and other not in grown:
            model.pieces[cell] |= 1 << d
            model.pieces[other] |= 1 << (d + 2) % 4
            grown.append(other)
    model.source = dice.choice(grown)
    model.pieces = [dice.choice(sorted(model.lies(cell))) for cell in range(cells)]
    return model


def begun(model):
    first = start(model.width, model.height, model.source, model.goes_round, text_of(model))
    return [first] + [[HOLD, cell] for cell in sorted(model.held)]


def row(numbers):
    return [len(numbers)] + list(numbers)


class Compared(unittest.TestCase):
    def compare_asked(self, model):
        cells = range(len(model.pieces))
        calls = [[WET], [LEAKS], [RINGS], [RIGHT], [PARTS]]
        told = [row(model.part(model.source)), [len(model.leaks())], [model.rings()], [int(model.right())],
                row([part[0] for part in model.parts()])]
        for cell in cells:
            leaking = [d for end, d in model.leaks() if end == cell]
            is_wet = int(cell in model.part(model.source))
            calls.extend([[AT, cell], [LEAK, cell], [PART, cell]])
            told.extend([[model.pieces[cell], len(leaking), is_wet, int(cell in model.held)], row(leaking),
                         row(model.part(cell))])
            other = (cell * 5 + 3) % len(cells)
            way = model.way(cell, other)
            calls.append([WAY, cell, other])
            told.append([-6] if way is None else row(way))
        first = begun(model)
        self.assertEqual(ask(*first, *calls)[len(first):], told, (text_of(model), model.source, model.goes_round))

    def test_what_is_asked(self):
        dice = random.Random(1)
        for time in range(150):
            self.compare_asked(random_model(dice, dice.choice(sizes(12))))
            self.compare_asked(tree_model(dice, dice.choice(sizes(12))))

    def compare_count(self, model, told):
        asked = ask(*begun(model), [COUNT])[-1]
        self.assertEqual(asked, [told], (text_of(model), model.source, model.goes_round, model.held))

    def test_count_by_turning(self):
        dice = random.Random(2)
        for make in (random_model, tree_model):
            for time in range(120):
                model = make(dice, dice.choice(sizes(4)))
                model.held = {cell for cell in range(len(model.pieces)) if dice.randrange(4) == 0}
                self.compare_count(model, model.count_by_turning())

    def test_count_by_joints(self):
        dice = random.Random(3)
        for time in range(60):
            model = tree_model(dice, dice.choice(sizes(9)))
            self.compare_count(model, model.count_by_joints())
            model.held = {dice.randrange(len(model.pieces))}
            self.compare_count(model, model.count_by_joints())

    def test_count_on_twelve_cells(self):
        dice = random.Random(4)
        for time in range(12):
            model = tree_model(dice, dice.choice(((4, 3), (3, 4))))
            self.compare_count(model, model.count_by_joints())

    def test_a_right_board_has_one_joint_fewer_than_cells_with_a_pipe(self):
        model = Model(4, 3, 0, 0, [2, 10, 10, 12, 6, 10, 10, 9, 3, 10, 10, 8])
        self.assertEqual((len(model.joints()), model.right()), (11, True))
        self.assertEqual(ask(*begun(model), [RIGHT])[-1], [1])

    def test_turned_boards(self):
        dice = random.Random(5)
        for time in range(40):
            model = random_model(dice, dice.choice(sizes(12)))
            calls = begun(model)
            for step in range(10):
                cell, quarters = dice.randrange(len(model.pieces)), dice.randrange(1, 4)
                piece = model.pieces[cell]
                model.pieces[cell] = (piece << quarters | piece >> 4 - quarters) & 15
                calls.append([TURN, cell, quarters])
            told = ask(*calls, [WET], [LEAKS], [RINGS])[-3:]
            self.assertEqual(told, [row(model.part(model.source)), [len(model.leaks())], [model.rings()]])


if __name__ == "__main__":
    unittest.main()
