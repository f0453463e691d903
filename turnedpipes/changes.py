"""The changes: each takes the game and its numbers (a text's bytes last), and answers a list.

A refusal is one number below 0, alone, and leaves the game as it was.
"""

from turnedpipes.pieces import turned, turns_by
from turnedpipes.refusals import IS_HELD, NO_BOARD, NOT_THERE, OTHER_PIECES, OUT_OF_RANGE
from turnedpipes.texts import read_board
from turnedpipes.ways import is_turned, turn_total


def turn(game, numbers):
    cell = numbers[0]
    quarters = numbers[1]
    if not 1 <= quarters <= 3:
        return [OUT_OF_RANGE]
    if cell in game.held:
        return [IS_HELD]
    game.pieces[cell] = turned(game.pieces[cell], quarters)
    # By its quarters alone: a piece that lies alike by them was turned too.
    game.turns += turns_by(quarters)
    return [game.pieces[cell]]


def hold(game, numbers):
    cell = numbers[0]
    if cell in game.held:
        return [IS_HELD]
    game.held[cell] = True
    return [len(game.held)]


def let(game, numbers):
    cell = numbers[0]
    if cell not in game.held:
        return [NOT_THERE]
    game.held.pop(cell)
    return [len(game.held)]


def lay(game, numbers):
    ways = game.ways()
    if numbers[0] >= len(ways):
        return [NOT_THERE]
    chosen = ways[numbers[0]]
    turns = turn_total(game.pieces, chosen)
    game.pieces = list(chosen)
    game.turns += turns
    return [turns]


def mix(game, numbers):
    pieces = read_board(numbers, game.width, game.height)
    if pieces is None:
        return [NO_BOARD]
    if not is_turned(game.pieces, pieces):
        return [OTHER_PIECES]
    if any([pieces[cell] != game.pieces[cell] for cell in game.held]):
        return [IS_HELD]
    turns = turn_total(game.pieces, pieces)
    game.pieces = pieces
    game.turns = 0
    return [turns]


def move_source(game, numbers):
    before = game.source
    game.source = numbers[0]
    return [before]


def cut(game, numbers):
    cell = numbers[0]
    if cell in game.held:
        return [IS_HELD]
    piece = game.pieces[cell]
    game.pieces[cell] = 0
    return [piece]


CHANGES = {1: turn, 2: hold, 3: let, 19: lay, 20: mix, 22: move_source, 23: cut}
