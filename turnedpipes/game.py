"""The object that calls are made on."""


class Game:
    def __init__(self):
        self.begun = False
        self.sides = []
        self.pieces = []
        self.held = {}
        self.source = 0
