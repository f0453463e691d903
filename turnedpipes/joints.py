"""What the pipes of a board make together: joints, leaks, parts, rings and shortest ways.

`pieces` holds a piece for each cell; `sides` for each cell the four cells beside it, by
direction (None where there is none).
"""

from turnedpipes.pieces import DIRECTIONS, has_arm, opposite


def piped_cells(pieces):
    return [cell for cell in range(len(pieces)) if pieces[cell] != 0]


def is_joint(pieces, sides, cell, direction):
    beside = sides[cell][direction]
    if beside is None:
        return False
    return has_arm(pieces[cell], direction) and has_arm(pieces[beside], opposite(direction))


def joint_directions(pieces, sides, cell):
    return [direction for direction in DIRECTIONS if is_joint(pieces, sides, cell, direction)]


def leak_directions(pieces, sides, cell):
    arms = [direction for direction in DIRECTIONS if has_arm(pieces[cell], direction)]
    return [direction for direction in arms if not is_joint(pieces, sides, cell, direction)]


def leak_total(pieces, sides):
    return sum([len(leak_directions(pieces, sides, cell)) for cell in range(len(pieces))])


def joint_total(pieces, sides):
    # A joint is of two arms, of one cell too where a row of one cell goes round.
    arms = sum([len(joint_directions(pieces, sides, cell)) for cell in range(len(pieces))])
    return arms // 2


def joined_cells(pieces, sides, cell):
    # Two cells may be joined twice where a board goes round, and are told once here.
    return sorted(set([sides[cell][direction] for direction in joint_directions(pieces, sides, cell)]))


def steps_from(pieces, sides, begun):
    # For each cell of the part of `begun`: by how few joints it is come to.
    steps = {begun: 0}
    found = [begun]
    place = 0
    while place < len(found):
        here = found[place]
        for other in joined_cells(pieces, sides, here):
            if other not in steps:
                steps[other] = steps[here] + 1
                found.append(other)
        place += 1
    return steps


def part_of(pieces, sides, cell):
    return sorted(steps_from(pieces, sides, cell))


def all_parts(pieces, sides):
    # Cells are walked rising, so the parts come in the order of their least cells.
    found = []
    seen = {}
    for cell in piped_cells(pieces):
        if cell not in seen:
            members = part_of(pieces, sides, cell)
            found.append(members)
            for member in members:
                seen[member] = True
    return found


def ring_total(pieces, sides):
    return joint_total(pieces, sides) + len(all_parts(pieces, sides)) - len(piped_cells(pieces))


def is_right(pieces, sides, source):
    if leak_total(pieces, sides) > 0:
        return False
    reached = steps_from(pieces, sides, source)
    dry = [cell for cell in piped_cells(pieces) if cell not in reached]
    return len(dry) == 0 and ring_total(pieces, sides) == 0


def shortest_way(pieces, sides, begun, to):
    # The cells from the one to the other, or None if they are not in one part. Steps are
    # counted from the far end, so that at each cell the least that is nearer can be taken.
    steps = steps_from(pieces, sides, to)
    if begun not in steps:
        return None
    cells = [begun]
    here = begun
    while here != to:
        nearer = [cell for cell in joined_cells(pieces, sides, here) if steps[cell] < steps[here]]
        here = nearer[0]
        cells.append(here)
    return cells
