"""For all tests: calls written as lists of whole numbers, answers split again, and a model.

The model is written as plainly as the document's words, and has nothing of the program in it.
"""

import itertools

from turnedpipes.board import answers

START, TURN, HOLD, LET, AT, WET, LEAKS, LEAK, RINGS, RIGHT, PARTS, PART, WAY, COUNT = range(14)
NTH, SURE, KNOWN, NEAREST, HINT, LAY, MIX, TEXT, SOURCE, CUT, ENDS, BACK, AGAIN, STATE = range(14, 28)
MOST = 4294967295


def bytes_of(text):
    # text: a str, or a list of bytes where it is to hold what no str tells well.
    given = list(text.encode("latin-1")) if isinstance(text, str) else list(text)
    return [len(given)] + given


def start(width, height, source, goes_round, text):
    return [START, width, height, source, goes_round] + bytes_of(text)


def mix(text):
    return [MIX] + bytes_of(text)


def flat(calls):
    return [number for call in calls for number in call]


def split(answered):
    told = []
    place = 0
    while place < len(answered):
        end = place + 1 + answered[place]
        if end > len(answered):
            raise AssertionError(f"answers end within one: {answered}")
        told.append(answered[place + 1:end])
        place = end
    return told


def ask(*calls):
    # What each call is answered, call by call; each number is held to be a plain int.
    answered = answers(flat(calls))
    for number in answered:
        if type(number) is not int:
            raise AssertionError(f"{number!r} is no whole number")
    told = split(answered)
    if len(told) != len(calls):
        raise AssertionError(f"{len(calls)} calls, {len(told)} answers")
    return told


def after(first, *calls):
    # As ask, without what the first call (a start) is answered.
    return ask(first, *calls)[1:]


STEPS = ((0, -1), (1, 0), (0, 1), (-1, 0))


class Model:
    def __init__(self, width, height, source, goes_round, pieces):
        self.width = width
        self.height = height
        self.source = source
        self.goes_round = goes_round
        self.pieces = list(pieces)
        self.held = set()

    def beside(self, cell, direction):
        x = cell % self.width + STEPS[direction][0]
        y = cell // self.width + STEPS[direction][1]
        if self.goes_round:
            x, y = x % self.width, y % self.height
        elif x not in range(self.width) or y not in range(self.height):
            return None
        return y * self.width + x

    def arms(self):
        return {(cell, d) for cell, piece in enumerate(self.pieces) for d in range(4) if piece >> d & 1}

    def joints(self):
        arms = self.arms()
        other = {arm: (self.beside(*arm), (arm[1] + 2) % 4) for arm in arms}
        return {frozenset((arm, other[arm])) for arm in arms if other[arm] in arms}

    def leaks(self):
        return sorted(self.arms() - {arm for joint in self.joints() for arm in joint})

    def pairs(self):
        return {tuple(sorted({cell for cell, d in joint})) for joint in self.joints()}

    def part(self, cell):
        found = {cell}
        while True:
            more = {end for pair in self.pairs() if found & set(pair) for end in pair} | found
            if more == found:
                return sorted(found)
            found = more

    def piped(self):
        return [cell for cell, piece in enumerate(self.pieces) if piece]

    def parts(self):
        return sorted({tuple(self.part(cell)) for cell in self.piped()})

    def rings(self):
        return len(self.joints()) + len(self.parts()) - len(self.piped())

    def right(self):
        return not self.leaks() and set(self.piped()) <= set(self.part(self.source)) and self.rings() == 0

    def way(self, begun, to):
        pairs = self.pairs()
        paths = [(begun,)]
        while paths:
            done = [path for path in paths if path[-1] == to]
            if done:
                return min(done)
            paths = [
                path + (cell,) for path in paths for cell in range(len(self.pieces))
                if cell not in path and tuple(sorted((path[-1], cell))) in pairs
            ]
        return None

    def lies(self, cell):
        piece = self.pieces[cell]
        return {piece} if cell in self.held else {spun(piece, n) for n in range(4)}

    def quarters(self, board):
        # For each cell: by how few quarters to the right it is come to.
        return [[spun(piece, n) for n in range(4)].index(other) for piece, other in zip(self.pieces, board)]

    def turns(self, board):
        return sum(min(quarters, 4 - quarters) for quarters in self.quarters(board))

    def ways_by_turning(self):
        boards = itertools.product(*[sorted(self.lies(cell)) for cell in range(len(self.pieces))])
        models = [Model(self.width, self.height, self.source, self.goes_round, pieces) for pieces in boards]
        return sorted([model.pieces for model in models if model.right()], key=self.quarters)

    def ways_by_joints(self):
        # All sets of joints that make a tree of the cells with a pipe, asked whether the pieces can lie so.
        joints = []
        for cell, d in itertools.product(range(len(self.pieces)), (1, 2)):
            if self.beside(cell, d) not in (None, cell):
                joints.append((cell, d, self.beside(cell, d)))
        lies = [self.lies(cell) for cell in range(len(self.pieces))]
        piped = self.piped()
        if piped and self.source not in piped:
            return []
        return sorted(tree_boards(joints, lies, piped), key=self.quarters)


def spun(piece, quarters):
    return (piece << quarters | piece >> 4 - quarters) & 15


def tree_boards(joints, lies, piped):
    most = [max(bin(piece).count("1") for piece in some) for some in lies]
    wanted = max(0, len(piped) - 1)
    # The cells that no joint from this place on is at: these lie as they will.
    settled = [
        [cell for cell in range(len(lies)) if all(cell not in (end, other) for end, d, other in joints[place:])]
        for place in range(len(joints) + 1)
    ]

    def boards(place, chosen, roots, pieces):
        if chosen == wanted:
            return [pieces] if all(piece in some for piece, some in zip(pieces, lies)) else []
        if len(joints) - place < wanted - chosen or any(pieces[cell] not in lies[cell] for cell in settled[place]):
            return []
        found = boards(place + 1, chosen, roots, pieces)
        cell, d, other = joints[place]
        longer = list(pieces)
        longer[cell] |= 1 << d
        longer[other] |= 1 << (d + 2) % 4
        if roots[cell] != roots[other] and all(bin(longer[end]).count("1") <= most[end] for end in (cell, other)):
            merged = [roots[cell] if root == roots[other] else root for root in roots]
            found = found + boards(place + 1, chosen + 1, merged, longer)
        return found

    return boards(0, 0, list(range(len(lies))), [0] * len(lies))


def text_of(model):
    digits = "".join("0123456789abcdef"[piece] for piece in model.pieces)
    return "".join(digits[row * model.width:(row + 1) * model.width] + "\n" for row in range(model.height))


def sizes(most):
    return [(w, h) for w in range(1, 6) for h in range(1, 6) if w * h <= most]


def random_model(dice, size):
    width, height = size
    few = dice.choice(([0, 1, 2, 3, 5, 6], list(range(16)), [7, 11, 13, 14, 15]))
    pieces = [dice.choice(few) for cell in range(width * height)]
    return Model(width, height, dice.randrange(width * height), dice.randrange(2), pieces)


def tree_model(dice, size):
    # A board that can be turned right: a tree grown joint by joint, then each piece turned.
    width, height = size
    cells = width * height
    model = Model(width, height, 0, dice.randrange(2), [0] * cells)
    grown = [dice.randrange(cells)]
    for step in range(cells * 6):
        cell, d = dice.choice(grown), dice.randrange(4)
        other = model.beside(cell, d)
        if other is not None and other not in grown:
            model.pieces[cell] |= 1 << d
            model.pieces[other] |= 1 << (d + 2) % 4
            grown.append(other)
    model.source = dice.choice(grown)
    model.pieces = [dice.choice(sorted(model.lies(cell))) for cell in range(cells)]
    return model


def begun(model):
    first = start(model.width, model.height, model.source, model.goes_round, text_of(model))
    return [first] + [[HOLD, cell] for cell in sorted(model.held)]


def row(numbers):
    return [len(numbers)] + list(numbers)
