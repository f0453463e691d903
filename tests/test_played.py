"""Whole lists of calls of every kind, held against a player that is written as plainly as the document's words.

The calls are the same each time: they come of a seed. What the player keeps is never changed, but
made anew by each change, so that taking back is to go back to what was kept.
"""

import random
import unittest

from tests.helper import (
    AGAIN, AT, BACK, COUNT, CUT, ENDS, HINT, HOLD, KNOWN, LAY, LEAK, LEAKS, LET, MIX, MOST, NEAREST, NTH, PART, PARTS,
    RIGHT, RINGS, SOURCE, START, STATE, SURE, TEXT, TURN, WAY, WET,
    Model, ask, begun, mix, random_model, row, sizes, spun, start, text_of, tree_model,
)

CELL_CALLS = {TURN: 1, HOLD: 1, LET: 1, AT: 1, LEAK: 1, PART: 1, WAY: 2, SURE: 1, SOURCE: 1, CUT: 1}


def model_of(shape, kept):
    pieces, held, source, turns = kept
    model = Model(shape[0], shape[1], source, shape[2], pieces)
    model.held = set(held)
    return model


def pieces_of(text, width, height):
    lines = bytes(text).split(b"\n")
    if lines[-1] == b"":
        lines.pop()
    digits = b"".join(lines)
    if [len(line) for line in lines] != [width] * height or any(digit not in b"0123456789abcdef" for digit in digits):
        return None
    return tuple(int(chr(digit), 16) for digit in digits)


class Player:
    def __init__(self):
        self.shape = None
        self.kept = None
        self.earlier = ()
        self.later = ()
        self.found = {}

    def ways(self, model):
        # Found once for each board: on twelve cells it takes its time.
        asked = (self.shape, self.kept[:3])
        if asked not in self.found:
            self.found[asked] = model.ways_by_joints()
        return self.found[asked]

    def answer(self, call):
        if call[0] == START:
            return self.start(*call[1:5], call[6:])
        if self.shape is None:
            return [-61]
        cells = call[1:1 + CELL_CALLS.get(call[0], 0)]
        if any(cell >= len(self.kept[0]) for cell in cells):
            return [-22]
        if call[0] == BACK:
            return self.back()
        if call[0] == AGAIN:
            return self.again()
        changed = self.changed(call)
        if changed is None:
            return self.asked(call)
        told, kept = changed
        if told >= 0:
            self.earlier = (self.earlier + (self.kept,))[-20:]
            self.later = ()
            self.kept = kept
        return [told]

    def start(self, width, height, source, goes_round, text):
        if not (width in range(1, 6) and height in range(1, 6) and width * height <= 12 and source < width * height):
            return [-22]
        if goes_round not in (0, 1):
            return [-22]
        pieces = pieces_of(text, width, height)
        if pieces is None:
            return [-71]
        self.shape = (width, height, goes_round)
        self.kept = (pieces, frozenset(), source, 0)
        self.earlier = self.later = ()
        return [len([piece for piece in pieces if piece])]

    def back(self):
        if not self.earlier:
            return [-2]
        self.later += (self.kept,)
        self.kept, self.earlier = self.earlier[-1], self.earlier[:-1]
        return [len(self.earlier)]

    def again(self):
        if not self.later:
            return [-2]
        self.earlier += (self.kept,)
        self.kept, self.later = self.later[-1], self.later[:-1]
        return [len(self.later)]

    def changed(self, call):
        # What a change is told, and what is kept behind it; None of a call that is no change.
        pieces, held, source, turns = self.kept
        model = model_of(self.shape, self.kept)
        if call[0] == LAY:
            ways = self.ways(model)
            if call[1] >= len(ways):
                return -2, None
            many = model.turns(ways[call[1]])
            return many, (tuple(ways[call[1]]), held, source, turns + many)
        if call[0] == MIX:
            return self.mixed(model, call[2:])
        if call[0] not in (TURN, HOLD, LET, SOURCE, CUT):
            return None
        cell = call[1]
        is_held = cell in held
        if call[0] == TURN:
            if call[2] not in (1, 2, 3):
                return -22, None
            lying = spun(pieces[cell], call[2])
            return (-17, None) if is_held else (lying, (self.laid(cell, lying), held, source, turns + (1, 2, 1)[call[2] - 1]))
        if call[0] == HOLD:
            return (-17, None) if is_held else (len(held) + 1, (pieces, held | {cell}, source, turns))
        if call[0] == LET:
            return (len(held) - 1, (pieces, held - {cell}, source, turns)) if is_held else (-2, None)
        if call[0] == SOURCE:
            return source, (pieces, held, cell, turns)
        return (-17, None) if is_held else (pieces[cell], (self.laid(cell, 0), held, source, turns))

    def laid(self, cell, piece):
        pieces = self.kept[0]
        return pieces[:cell] + (piece,) + pieces[cell + 1:]

    def mixed(self, model, text):
        pieces, held, source, turns = self.kept
        board = pieces_of(text, model.width, model.height)
        if board is None:
            return -71, None
        if any(other not in [spun(piece, n) for n in range(4)] for piece, other in zip(pieces, board)):
            return -13, None
        if any(board[cell] != pieces[cell] for cell in held):
            return -17, None
        return model.turns(board), (board, held, source, 0)

    def asked(self, call):
        model = model_of(self.shape, self.kept)
        cells = range(len(model.pieces))
        if call[0] == AT:
            leaking = len([end for end, d in model.leaks() if end == call[1]])
            is_wet = int(call[1] in model.part(model.source))
            return [model.pieces[call[1]], leaking, is_wet, int(call[1] in model.held)]
        if call[0] == WAY:
            way = model.way(call[1], call[2])
            return [-6] if way is None else row(way)
        if call[0] == STATE:
            width, height, goes_round = self.shape
            told = [self.kept[3], width, height, model.source, goes_round, len(model.held)]
            return told + [len(self.earlier), len(self.later)]
        if call[0] in (COUNT, NTH, SURE, KNOWN, NEAREST, HINT):
            return self.of_ways(call, model, self.ways(model))
        return {
            WET: lambda: row(model.part(model.source)),
            LEAKS: lambda: [len(model.leaks())],
            LEAK: lambda: row([d for end, d in model.leaks() if end == call[1]]),
            RINGS: lambda: [model.rings()],
            RIGHT: lambda: [int(model.right())],
            PARTS: lambda: row([part[0] for part in model.parts()]),
            PART: lambda: row(model.part(call[1])),
            TEXT: lambda: row(text_of(model).encode()),
            ENDS: lambda: row([cell for cell in cells if model.pieces[cell] in (1, 2, 4, 8)]),
        }[call[0]]()

    def of_ways(self, call, model, ways):
        if call[0] == COUNT:
            return [len(ways)]
        if call[0] == NTH:
            return row(ways[call[1]]) if call[1] < len(ways) else [-2]
        if not ways:
            return [-33]
        alike = [cell for cell in range(len(model.pieces)) if len({board[cell] for board in ways}) == 1]
        if call[0] == SURE:
            return [ways[0][call[1]]] if call[1] in alike else [-6]
        if call[0] == KNOWN:
            return row(alike)
        near = sorted(ways, key=model.turns)[0]
        if call[0] == NEAREST:
            return [model.turns(near)] + near
        differ = [[cell, quarters] for cell, quarters in enumerate(model.quarters(near)) if quarters]
        return differ[0] if differ else [-6]


def dealt(dice, player, size):
    make = dice.choice((tree_model, tree_model, tree_model, random_model))
    model = make(dice, size)
    first = begun(model)[0]
    if dice.randrange(4) == 0:
        first = start(*dice.choice(((6, 1, 0, 0, "1"), (1, 1, 0, 0, "g"), (2, 2, 4, 0, "11\n11"), (1, 1, 0, MOST, "0"))))
    return first


def dealt_mix(dice, player):
    pieces, held, source, turns = player.kept
    model = model_of(player.shape, player.kept)
    free = dice.randrange(3) == 0
    model.pieces = [piece if cell in held and not free else spun(piece, dice.randrange(4)) for cell, piece in enumerate(pieces)]
    if dice.randrange(6) == 0:
        model.pieces[dice.randrange(len(pieces))] = dice.randrange(16)
    text = text_of(model)
    wrong = dice.randrange(12)
    if wrong == 0:
        text = text + "\n"
    if wrong == 1:
        text = text[1:]
    if wrong == 2:
        text = text[:-1]
    return mix(text)


def next_call(dice, player, size):
    if player.shape is None or dice.randrange(60) == 0:
        return dealt(dice, player, size)
    number = dice.choice(list(range(1, 28)) + [TURN, TURN, LAY, MIX, BACK, BACK, AGAIN, AGAIN, STATE])
    cells = len(player.kept[0])
    cell = dice.choice((cells, MOST)) if dice.randrange(12) == 0 else dice.randrange(cells)
    if number == MIX:
        return dealt_mix(dice, player)
    if number == TURN:
        return [TURN, cell, dice.choice((1, 2, 3, 1, 2, 3, 0, 4, MOST))]
    if number == WAY:
        return [WAY, cell, dice.randrange(cells)] if dice.randrange(2) else [WAY, dice.randrange(cells), cell]
    if number in (NTH, LAY):
        return [number, dice.choice((0, 0, 0, 1, 1, 2, 3, 7, MOST))]
    if number in CELL_CALLS:
        # A hold or a cut often leaves no way, so these come less often.
        return [LET, cell] if number in (HOLD, CUT) and dice.randrange(2) else [number, cell]
    return [number]


class Played(unittest.TestCase):
    def play(self, seed, size, many):
        dice = random.Random(seed)
        player = Player()
        calls, told = [], []
        for step in range(many):
            call = next_call(dice, player, size)
            calls.append(call)
            told.append(player.answer(call))
        for place, answer in enumerate(ask(*calls)):
            self.assertEqual(answer, told[place], (seed, size, calls[:place + 1]))
        return calls, told

    def test_small_boards(self):
        for seed, size in enumerate(sizes(6) * 3):
            self.play(seed, size, 200)

    def test_boards_of_twelve_cells(self):
        for seed, size in enumerate(((4, 3), (3, 4), (5, 2), (2, 5)) * 2):
            self.play(100 + seed, size, 200)

    def test_each_call_is_answered_and_refused_in_each_way(self):
        seen = {number: set() for number in range(28)}
        for seed, size in enumerate(((2, 2), (3, 1), (3, 2), (2, 3)) * 5):
            calls, told = self.play(200 + seed, size, 200)
            for call, answer in zip(calls, told):
                seen[call[0]].add(min(answer[0], 0))
        refusals = {
            START: {-22, -71}, TURN: {-22, -17}, HOLD: {-22, -17}, LET: {-22, -2}, AT: {-22}, LEAK: {-22}, PART: {-22},
            WAY: {-22, -6}, NTH: {-2}, SURE: {-22, -33, -6}, KNOWN: {-33}, NEAREST: {-33}, HINT: {-33, -6}, LAY: {-2},
            MIX: {-71, -13, -17}, SOURCE: {-22}, CUT: {-22, -17}, BACK: {-2}, AGAIN: {-2},
        }
        for number in range(28):
            self.assertEqual(seen[number], refusals.get(number, set()) | {0}, number)


if __name__ == "__main__":
    unittest.main()
