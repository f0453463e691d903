"""The object that calls are made on, and its changes that can be taken back or done again."""

from turnedpipes.cells import all_sides
from turnedpipes.ways import all_ways

MOST_KEPT = 20


class Game:
    def __init__(self):
        self.begun = False
        self.width = 0
        self.height = 0
        self.goes_round = 0
        self.sides = []
        self.pieces = []
        self.held = {}
        self.source = 0
        self.turns = 0
        self.earlier = []
        self.later = []

    def begin(self, width, height, goes_round):
        self.begun = True
        self.width = width
        self.height = height
        self.goes_round = goes_round
        self.sides = all_sides(width, height, goes_round == 1)
        self.earlier = []
        self.later = []

    def ways(self):
        return all_ways(self.pieces, self.held, self.sides, self.source)

    def as_it_is(self):
        # Copied, as changes are made in the list and the dict themselves.
        return (list(self.pieces), dict(self.held), self.source, self.turns)

    def become(self, kept):
        self.pieces = list(kept[0])
        self.held = dict(kept[1])
        self.source = kept[2]
        self.turns = kept[3]

    def remember(self, kept):
        # `kept` is how it was ahead of the change that was made now.
        self.earlier.append(kept)
        self.earlier = self.earlier[-MOST_KEPT:]
        self.later = []

    def take_back(self):
        self.later.append(self.as_it_is())
        self.become(self.earlier.pop())

    def do_again(self):
        self.earlier.append(self.as_it_is())
        self.become(self.later.pop())
