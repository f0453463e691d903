"""The calls: each takes the game and its numbers (a text's bytes last), and answers a list.

A refusal is one number below 0, alone, and leaves the game as it was.
"""

from turnedpipes.cells import all_sides
from turnedpipes.joints import (
    all_parts, is_right, leak_directions, leak_total, part_of, piped_cells, ring_total, shortest_way,
)
from turnedpipes.pieces import turned
from turnedpipes.texts import read_board
from turnedpipes.ways import all_ways

NOT_BEGUN = -61
OUT_OF_RANGE = -22
NO_BOARD = -71
IS_HELD = -17
NOT_THERE = -2
APART = -6

MOST_A_SIDE = 5
MOST_CELLS = 12


class NotBuilt(Exception):
    pass


def as_row(numbers):
    return [len(numbers)] + numbers


def is_size(width, height):
    return 1 <= width <= MOST_A_SIDE and 1 <= height <= MOST_A_SIDE and width * height <= MOST_CELLS


def start(game, numbers):
    width = numbers[0]
    height = numbers[1]
    source = numbers[2]
    goes_round = numbers[3]
    if not is_size(width, height) or source >= width * height or goes_round > 1:
        return [OUT_OF_RANGE]
    pieces = read_board(numbers[4:], width, height)
    if pieces is None:
        return [NO_BOARD]
    game.begun = True
    game.sides = all_sides(width, height, goes_round == 1)
    game.pieces = pieces
    game.held = {}
    game.source = source
    return [len(piped_cells(pieces))]


def turn(game, numbers):
    cell = numbers[0]
    quarters = numbers[1]
    if not 1 <= quarters <= 3:
        return [OUT_OF_RANGE]
    if cell in game.held:
        return [IS_HELD]
    game.pieces[cell] = turned(game.pieces[cell], quarters)
    return [game.pieces[cell]]


def hold(game, numbers):
    cell = numbers[0]
    if cell in game.held:
        return [IS_HELD]
    game.held[cell] = True
    return [len(game.held)]


def let(game, numbers):
    cell = numbers[0]
    if cell not in game.held:
        return [NOT_THERE]
    game.held.pop(cell)
    return [len(game.held)]


def at(game, numbers):
    cell = numbers[0]
    leaking = len(leak_directions(game.pieces, game.sides, cell))
    is_wet = 1 if cell in part_of(game.pieces, game.sides, game.source) else 0
    is_held = 1 if cell in game.held else 0
    return [game.pieces[cell], leaking, is_wet, is_held]


def wet(game, numbers):
    return as_row(part_of(game.pieces, game.sides, game.source))


def leaks(game, numbers):
    return [leak_total(game.pieces, game.sides)]


def leak(game, numbers):
    return as_row(leak_directions(game.pieces, game.sides, numbers[0]))


def rings(game, numbers):
    return [ring_total(game.pieces, game.sides)]


def right(game, numbers):
    return [1 if is_right(game.pieces, game.sides, game.source) else 0]


def parts(game, numbers):
    return as_row([members[0] for members in all_parts(game.pieces, game.sides)])


def part(game, numbers):
    return as_row(part_of(game.pieces, game.sides, numbers[0]))


def way(game, numbers):
    cells = shortest_way(game.pieces, game.sides, numbers[0], numbers[1])
    if cells is None:
        return [APART]
    return as_row(cells)


def count(game, numbers):
    return [len(all_ways(game.pieces, game.held, game.sides, game.source))]


START = 0
HANDLERS = (start, turn, hold, let, at, wet, leaks, leak, rings, right, parts, part, way, count)

# How many of a call's first numbers are cells, from call 0 on.
CELL_NUMBERS = (0, 1, 1, 1, 1, 0, 0, 1, 0, 0, 0, 1, 2, 0)


def lacks_cell(game, number, numbers):
    cells = numbers[:CELL_NUMBERS[number]]
    return any([cell >= len(game.pieces) for cell in cells])


def answer(game, number, numbers):
    if number != START and not game.begun:
        return [NOT_BEGUN]
    if number >= len(HANDLERS):
        raise NotBuilt(f"call {number} is not built yet")
    if lacks_cell(game, number, numbers):
        return [OUT_OF_RANGE]
    handler = HANDLERS[number]
    return handler(game, numbers)
