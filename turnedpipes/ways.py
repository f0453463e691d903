"""Ways: the right boards that come of a board by turning pieces that are not held."""

from turnedpipes.joints import is_right, piped_cells
from turnedpipes.pieces import DIRECTIONS, arm_count, has_arm, lies, opposite, quarters_to, turns_by


def may_be_right(pieces):
    # A right board with a pipe has one joint fewer than cells with a pipe, two arms to each joint and no other
    # arm; turning leaves how many arms there are. Most boards without a way are told from this alone.
    joints = max(0, len(piped_cells(pieces)) - 1)
    return sum([arm_count(piece) for piece in pieces]) == 2 * joints


def fits(laid, sides):
    # Whether no arm at the last cell laid leaks, nor leaks to it, as far as cells are laid.
    last = len(laid) - 1
    for direction in DIRECTIONS:
        beside = sides[last][direction]
        arm = has_arm(laid[last], direction)
        if beside is None:
            if arm:
                return False
        elif beside <= last and arm != has_arm(laid[beside], opposite(direction)):
            return False
    return True


def laid_further(begun_boards, choices, sides):
    further = []
    for laid in begun_boards:
        for piece in choices:
            longer = laid + [piece]
            if fits(longer, sides):
                further.append(longer)
    return further


def all_ways(pieces, held, sides, source):
    # Boards grow cell by cell from 0 on, each piece by rising quarters: so they come in the
    # order of ways, and each once.
    if not may_be_right(pieces):
        return []
    boards = [[]]
    for cell in range(len(pieces)):
        choices = [pieces[cell]] if cell in held else lies(pieces[cell])
        boards = laid_further(boards, choices, sides)
    return [board for board in boards if is_right(board, sides, source)]


def is_turned(pieces, board):
    return all([quarters_to(pieces[cell], board[cell]) is not None for cell in range(len(pieces))])


def turn_total(pieces, board):
    return sum([turns_by(quarters_to(pieces[cell], board[cell])) for cell in range(len(pieces))])


def lies_alike(ways, cell):
    return all([board[cell] == ways[0][cell] for board in ways])


def nearest_way(pieces, ways):
    # Of several that are as near min gives the first.
    return min(ways, key=lambda board: turn_total(pieces, board))
