"""A piece of pipe: a number from 0 to 15, the sum of its arms.

Directions are 0 up, 1 right, 2 down, 3 left.
"""

ARMS = (1, 2, 4, 8)
DIRECTIONS = (0, 1, 2, 3)


def has_arm(piece, direction):
    return piece & ARMS[direction] != 0


def arm_count(piece):
    return len([direction for direction in DIRECTIONS if has_arm(piece, direction)])


def opposite(direction):
    return (direction + 2) % 4


def turned(piece, quarters):
    # Each arm's number doubles by a quarter to the right; what goes beyond left comes in again at up.
    moved = piece << quarters
    return moved % 16 + moved // 16


def lies(piece):
    # A piece that lies alike by two turns stands here once, by the fewer quarters.
    found = []
    for quarters in range(4):
        lying = turned(piece, quarters)
        if lying not in found:
            found.append(lying)
    return found


def quarters_to(piece, other):
    # The fewest quarters to the right, or None if the one is not the other turned.
    found = lies(piece)
    if other not in found:
        return None
    return found.index(other)


def turns_by(quarters):
    # Three quarters to the right are one to the left.
    return min(quarters, 4 - quarters)
