"""Which call is answered by which handler, and what is asked ahead of each.

A refusal is one number below 0, alone, and leaves the game as it was.
"""

from turnedpipes.asked import ASKED
from turnedpipes.changes import CHANGES
from turnedpipes.joints import piped_cells
from turnedpipes.refusals import NO_BOARD, NOT_BEGUN, NOT_THERE, OUT_OF_RANGE
from turnedpipes.texts import read_board

MOST_A_SIDE = 5
MOST_CELLS = 12

START = 0

# How many of a call's first numbers are cells, from call 0 on.
CELL_NUMBERS = (0, 1, 1, 1, 1, 0, 0, 1, 0, 0, 0, 1, 2, 0, 0, 1, 0, 0, 0, 0, 0, 0, 1, 1, 0, 0, 0, 0)


def is_size(width, height):
    return 1 <= width <= MOST_A_SIDE and 1 <= height <= MOST_A_SIDE and width * height <= MOST_CELLS


def start(game, numbers):
    width = numbers[0]
    height = numbers[1]
    source = numbers[2]
    goes_round = numbers[3]
    if not is_size(width, height) or source >= width * height or goes_round > 1:
        return [OUT_OF_RANGE]
    pieces = read_board(numbers[4:], width, height)
    if pieces is None:
        return [NO_BOARD]
    game.begin(width, height, goes_round)
    game.become((pieces, {}, source, 0))
    return [len(piped_cells(pieces))]


def back(game, numbers):
    if len(game.earlier) == 0:
        return [NOT_THERE]
    game.take_back()
    return [len(game.earlier)]


def again(game, numbers):
    if len(game.later) == 0:
        return [NOT_THERE]
    game.do_again()
    return [len(game.later)]


OTHERS = {0: start, 25: back, 26: again}


def changed(game, number, numbers):
    # Kept ahead of the change, and remembered only if it was not refused.
    kept = game.as_it_is()
    handler = CHANGES[number]
    told = handler(game, numbers)
    if told[0] >= 0:
        game.remember(kept)
    return told


def lacks_cell(game, number, numbers):
    cells = numbers[:CELL_NUMBERS[number]]
    return any([cell >= len(game.pieces) for cell in cells])


def answer(game, number, numbers):
    if number != START and not game.begun:
        return [NOT_BEGUN]
    if lacks_cell(game, number, numbers):
        return [OUT_OF_RANGE]
    if number in CHANGES:
        return changed(game, number, numbers)
    handler = ASKED[number] if number in ASKED else OTHERS[number]
    return handler(game, numbers)
