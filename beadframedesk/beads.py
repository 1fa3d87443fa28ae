"""The beads of a frame, and the moves that are made with them."""

RODS = 12
LOWER_BEADS = 4

# A frame shows numbers below this one: 10 to the number of its rods.
LIMIT = 1000000000000

LOWER_UP = 0
LOWER_DOWN = 1
UPPER_DOWN = 2
UPPER_UP = 3


class BeadFrame:
    """Where the beads of twelve rods are, and which moves were told of late."""

    def __init__(self):
        self.begin()

    def begin(self):
        """Show nothing, without any move."""
        self.uppers_down = [0] * RODS
        self.lowers_up = [0] * RODS
        self.told = []

    def can_make(self, rod, kind, beads):
        """Whether the rod is there, a bead is moved, and the beads are where they're moved from."""
        if rod >= RODS or beads < 1:
            return False
        if kind == LOWER_UP:
            return self.lowers_up[rod] + beads <= LOWER_BEADS
        if kind == LOWER_DOWN:
            return beads <= self.lowers_up[rod]
        if kind == UPPER_DOWN:
            return beads == 1 and self.uppers_down[rod] == 0
        if kind == UPPER_UP:
            return beads == 1 and self.uppers_down[rod] == 1
        return False

    def make(self, rod, kind, beads):
        """Make a move that can be made, and tell it."""
        if kind == LOWER_UP:
            self.lowers_up[rod] += beads
        elif kind == LOWER_DOWN:
            self.lowers_up[rod] -= beads
        elif kind == UPPER_DOWN:
            self.uppers_down[rod] = 1
        else:
            self.uppers_down[rod] = 0
        self.told.append((rod, kind, beads))

    def digit_at(self, rod):
        """What one rod shows."""
        return 5 * self.uppers_down[rod] + self.lowers_up[rod]

    def shown(self):
        """What the whole frame shows."""
        number = 0
        for rod in range(RODS - 1, -1, -1):
            number = 10 * number + self.digit_at(rod)
        return number
