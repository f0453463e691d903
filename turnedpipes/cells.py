"""The cells of a board, numbered row by row from 0, and which lies beside which."""

DOWN_STEPS = (-1, 0, 1, 0)
RIGHT_STEPS = (0, 1, 0, -1)


def cell_beside(width, height, goes_round, cell, direction):
    row = cell // width + DOWN_STEPS[direction]
    column = cell % width + RIGHT_STEPS[direction]
    if goes_round:
        return row % height * width + column % width
    if 0 <= row < height and 0 <= column < width:
        return row * width + column
    return None


def all_sides(width, height, goes_round):
    # For each cell the four cells beside it, by direction; None where there is none.
    sides = []
    for cell in range(width * height):
        sides.append([cell_beside(width, height, goes_round, cell, direction) for direction in range(4)])
    return sides
