"""A second reckoner, told after the document, in another way than the program.

It keeps digits, not beads. A digit is shown in one way, so what has to be moved
to bring a rod from one digit to another is known from the two digits alone: the
upper bead first, if it changes its place, then the lower ones, if any do.
"""

from tests.told import LIMIT, telling


class Second:

    def __init__(self):
        self.digits = [0] * 12
        self.moves = []

    def call(self, name, *given):
        """What a call answers; its moves are told from none on."""
        self.moves = []
        return getattr(self, "call_" + name)(*given)

    def shown(self):
        return int("".join(str(digit) for digit in reversed(self.digits)))

    def bring(self, rod, digit):
        old_five, old_ones = divmod(self.digits[rod], 5)
        five, ones = divmod(digit, 5)
        if five != old_five:
            self.moves.append((rod, 2 if five else 3, 1))
        if ones > old_ones:
            self.moves.append((rod, 0, ones - old_ones))
        elif ones < old_ones:
            self.moves.append((rod, 1, old_ones - ones))
        self.digits[rod] = digit

    def add(self, rod, number):
        for place, digit in reversed(list(enumerate(reversed(str(number))))):
            at = rod + place
            digit = int(digit)
            while digit:
                total = self.digits[at] + digit
                self.bring(at, total % 10)
                at, digit = at + 1, total // 10

    def take(self, rod, number):
        for place, digit in reversed(list(enumerate(reversed(str(number))))):
            if digit == "0":
                continue
            ten = at = rod + place
            if self.digits[at] < int(digit):
                # The first rod above that shows anything gives the ten, which
                # comes down rod by rod, each on the way left with 9.
                ten += 1
                while not self.digits[ten]:
                    ten += 1
                self.bring(ten, self.digits[ten] - 1)
                for between in range(ten - 1, at, -1):
                    self.bring(between, 9)
            self.bring(at, (self.digits[at] - int(digit)) % 10)

    def clear(self):
        for rod in range(11, -1, -1):
            self.bring(rod, 0)

    def told(self):
        return telling(*self.moves)

    def call_start(self):
        self.digits = [0] * 12
        return [0]

    def call_set(self, n):
        if n >= LIMIT:
            return [-75]
        self.clear()
        self.add(0, n)
        return self.told()

    def call_add(self, n):
        if self.shown() + n >= LIMIT:
            return [-75]
        self.add(0, n)
        return self.told()

    def call_take(self, n):
        if self.shown() < n:
            return [-33]
        self.take(0, n)
        return self.told()

    def call_times(self, a, b):
        if max(a, b, a * b) >= LIMIT:
            return [-75]
        self.clear()
        for at_a, digit_a in enumerate(str(a)):
            for at_b, digit_b in enumerate(str(b)):
                rod = len(str(a)) - 1 - at_a + len(str(b)) - 1 - at_b
                self.add(rod, int(digit_a) * int(digit_b))
        return self.told()

    def call_over(self, b):
        if not 0 < b < LIMIT:
            return [-22]
        quotient = self.shown() // b
        # The quotient's digits, found without the frame, are those of the document.
        for at, digit in enumerate(str(quotient)):
            self.take(len(str(quotient)) - 1 - at, int(digit) * b)
        return self.told() + [quotient]

    def call_move(self, rod, kind, beads):
        if rod > 11 or kind > 3 or beads == 0:
            return [-13]
        five, ones = divmod(self.digits[rod], 5)
        five += {2: beads, 3: -beads}.get(kind, 0)
        ones += {0: beads, 1: -beads}.get(kind, 0)
        if five not in (0, 1) or ones not in (0, 1, 2, 3, 4):
            return [-13]
        self.digits[rod] = 5 * five + ones
        return [0]

    def call_value(self):
        return [0, self.shown()]

    def call_rod(self, rod):
        if rod > 11:
            return [-22]
        return [self.digits[rod], self.digits[rod] // 5, self.digits[rod] % 5]
