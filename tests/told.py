"""What the tests share: asking for calls by name, and making told moves by hand."""

from beadframedesk.frame import answers

NUMBERS = {"start": 0, "set": 1, "add": 2, "take": 3, "times": 4,
           "over": 5, "move": 6, "value": 7, "rod": 8}

LIMIT = 10 ** 12
GREATEST = 18446744073709551615


def as_list(*calls):
    """The list to hand in, of calls like ("set", 5)."""
    handed = []
    for name, *given in calls:
        handed.append(NUMBERS[name])
        handed.extend(given)
    return handed


def cut(answered):
    """The answers one by one, without how many numbers each is."""
    apart = []
    at = 0
    while at < len(answered):
        end = at + 1 + answered[at]
        apart.append(answered[at + 1:end])
        at = end
    if at != len(answered):
        raise AssertionError("the last answer is shorter than told")
    return apart


def ask(*calls):
    """What each of the calls answers."""
    return cut(answers(as_list(*calls)))


def ask_last(*calls):
    return ask(*calls)[-1]


def telling(*moves):
    """The answer that tells these moves."""
    return [len(moves)] + [number for move in moves for number in move]


def dividing(quotient, *moves):
    """The answer that tells these moves, and the quotient behind them."""
    return telling(*moves) + [quotient]


def after(*calls):
    """What is shown after the calls, by the program's own word."""
    done, shown = ask_last(*calls, ("value",))
    if done != 0:
        raise AssertionError("value is refused: %r" % (done,))
    return shown


def beads_after(*calls):
    """Upper bead and lower beads of each rod after the calls."""
    looks = [("rod", rod) for rod in range(12)]
    return [tuple(answer[1:]) for answer in ask(*calls, *looks)[-12:]]


def moves_of(answer):
    if len(answer) != 1 + 3 * answer[0]:
        raise AssertionError("not three numbers for each move: %r" % (answer,))
    return [tuple(answer[at:at + 3]) for at in range(1, len(answer), 3)]


class Hand:
    """A frame of its own, whose beads are moved one move after another."""

    def __init__(self):
        self.up = [0] * 12
        self.five = [0] * 12

    def can(self, rod, kind, beads):
        if rod not in range(12) or kind not in range(4):
            return False
        return (
            1 <= beads <= 4 - self.up[rod],
            1 <= beads <= self.up[rod],
            beads == 1 and self.five[rod] == 0,
            beads == 1 and self.five[rod] == 1,
        )[kind]

    def make(self, rod, kind, beads):
        if not self.can(rod, kind, beads):
            raise AssertionError("can't be made: %r" % ((rod, kind, beads),))
        self.up[rod] += {0: beads, 1: -beads}.get(kind, 0)
        self.five[rod] += {2: 1, 3: -1}.get(kind, 0)

    def follow(self, answer):
        for move in moves_of(answer):
            self.make(*move)
        return self.shown()

    def shown(self):
        return sum((5 * self.five[rod] + self.up[rod]) * 10 ** rod for rod in range(12))
