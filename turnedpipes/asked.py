"""The calls that ask: each takes the game and its numbers, answers a list, and changes nothing."""

from turnedpipes.joints import all_parts, is_right, leak_directions, leak_total, part_of, ring_total, shortest_way
from turnedpipes.pieces import arm_count, quarters_to
from turnedpipes.refusals import NO_WAY, NOT_SO, NOT_THERE
from turnedpipes.texts import written
from turnedpipes.ways import lies_alike, nearest_way, turn_total


def as_row(numbers):
    return [len(numbers)] + numbers


def at(game, numbers):
    cell = numbers[0]
    leaking = len(leak_directions(game.pieces, game.sides, cell))
    is_wet = 1 if cell in part_of(game.pieces, game.sides, game.source) else 0
    is_held = 1 if cell in game.held else 0
    return [game.pieces[cell], leaking, is_wet, is_held]


def wet(game, numbers):
    return as_row(part_of(game.pieces, game.sides, game.source))


def leaks(game, numbers):
    return [leak_total(game.pieces, game.sides)]


def leak(game, numbers):
    return as_row(leak_directions(game.pieces, game.sides, numbers[0]))


def rings(game, numbers):
    return [ring_total(game.pieces, game.sides)]


def right(game, numbers):
    return [1 if is_right(game.pieces, game.sides, game.source) else 0]


def parts(game, numbers):
    return as_row([members[0] for members in all_parts(game.pieces, game.sides)])


def part(game, numbers):
    return as_row(part_of(game.pieces, game.sides, numbers[0]))


def way(game, numbers):
    cells = shortest_way(game.pieces, game.sides, numbers[0], numbers[1])
    if cells is None:
        return [NOT_SO]
    return as_row(cells)


def count(game, numbers):
    return [len(game.ways())]


def nth(game, numbers):
    ways = game.ways()
    if numbers[0] >= len(ways):
        return [NOT_THERE]
    return as_row(ways[numbers[0]])


def sure(game, numbers):
    ways = game.ways()
    if len(ways) == 0:
        return [NO_WAY]
    if not lies_alike(ways, numbers[0]):
        return [NOT_SO]
    return [ways[0][numbers[0]]]


def known(game, numbers):
    ways = game.ways()
    if len(ways) == 0:
        return [NO_WAY]
    return as_row([cell for cell in range(len(game.pieces)) if lies_alike(ways, cell)])


def nearest(game, numbers):
    ways = game.ways()
    if len(ways) == 0:
        return [NO_WAY]
    near = nearest_way(game.pieces, ways)
    return [turn_total(game.pieces, near)] + near


def hint(game, numbers):
    ways = game.ways()
    if len(ways) == 0:
        return [NO_WAY]
    near = nearest_way(game.pieces, ways)
    for cell in range(len(near)):
        quarters = quarters_to(game.pieces[cell], near[cell])
        if quarters > 0:
            return [cell, quarters]
    return [NOT_SO]


def text(game, numbers):
    return as_row(written(game.pieces, game.width))


def ends(game, numbers):
    return as_row([cell for cell in range(len(game.pieces)) if arm_count(game.pieces[cell]) == 1])


def state(game, numbers):
    told = [game.turns, game.width, game.height, game.source, game.goes_round]
    return told + [len(game.held), len(game.earlier), len(game.later)]


ASKED = {
    4: at, 5: wet, 6: leaks, 7: leak, 8: rings, 9: right, 10: parts, 11: part, 12: way, 13: count,
    14: nth, 15: sure, 16: known, 17: nearest, 18: hint, 21: text, 24: ends, 27: state,
}
