"""The numbers that a call is refused with."""

NOT_BEGUN = -61
OUT_OF_RANGE = -22
NO_BOARD = -71
OTHER_PIECES = -13
IS_HELD = -17
NOT_THERE = -2
NO_WAY = -33

# One number for three: two cells that are not in one part, a piece that does not lie alike in all
# ways, a board that is its nearest way already.
NOT_SO = -6
