"""Promise 8, and what holds over the whole program."""

import unittest

from beadframedesk.frame import answers
from tests.second import Second
from tests.told import GREATEST, LIMIT, Hand, as_list, ask, cut

NAMES = ("set", "add", "add", "take", "take", "times", "over", "over", "move", "move", "move", "value", "rod")


class Draw:
    """Numbers that look drawn, and are the same every time."""

    def __init__(self, seed):
        self.state = seed

    def below(self, bound):
        self.state = (self.state * 6364136223846793005 + 1442695040888963407) % 2 ** 64
        return (self.state >> 24) % bound

    def number(self):
        """A number of any length, often with zeros and nines, seldom too much."""
        sort = self.below(24)
        if sort == 0:
            return (0, LIMIT - 1, LIMIT, LIMIT + 1, GREATEST)[self.below(5)]
        number = self.below(10 ** (1 + self.below(12)))
        if sort < 6:
            number -= number % 10 ** self.below(12)
        elif sort < 10:
            number = int(str(number).replace(str(self.below(10)), "09"[self.below(2)])[:12])
        return number

    def call(self):
        name = NAMES[self.below(len(NAMES))]
        if name == "times":
            cut_a = 10 ** self.below(12)
            return (name, self.number() // cut_a, self.number() % (LIMIT // cut_a))
        if name == "over":
            return (name, self.number() // 10 ** self.below(12))
        if name == "move":
            return (name, self.below(13), self.below(5), self.below(6) if self.below(2) else 1)
        if name == "value":
            return (name,)
        if name == "rod":
            return (name, self.below(13))
        return (name, self.number())

    def calls(self, many):
        """A list of calls; a start now and then."""
        drawn = [("start",)]
        while len(drawn) < many:
            drawn.append(self.call() if self.below(50) else ("start",))
        return drawn


def reckoned(shown, name, given):
    """What ought to be shown after a call that was not refused, by Python's own sums."""
    if name == "start":
        return 0
    if name == "set":
        return given[0]
    if name == "add":
        return shown + given[0]
    if name == "take":
        return shown - given[0]
    if name == "times":
        return given[0] * given[1]
    if name == "over":
        return shown % given[0]
    return shown


def follow(hand, name, given, answer):
    """The second frame after a call: the told moves made on it, or the one by hand."""
    if name == "start":
        return Hand()
    if name == "move":
        hand.make(*given)
    elif name == "over":
        hand.follow(answer[:-1])
    elif name in ("set", "add", "take", "times"):
        hand.follow(answer)
    return hand


class ManyLists(unittest.TestCase):

    def lists(self):
        for seed in range(60):
            yield Draw(seed).calls(400)
        for seed in range(60, 160):
            yield Draw(seed).calls(1 + seed % 40)

    def test_every_told_move_can_be_made_and_brings_the_frame_there(self):
        for calls in self.lists():
            hand = Hand()
            shown = 0
            for (name, *given), answer in zip(calls, ask(*calls), strict=True):
                if answer[0] < 0:
                    continue
                if name == "over":
                    self.assertEqual(answer[-1] * given[0] + shown % given[0], shown)
                hand = follow(hand, name, given, answer)
                shown = hand.shown() if name == "move" else reckoned(shown, name, given)
                self.assertEqual(hand.shown(), shown)

    def test_the_frame_is_where_the_moves_bring_it(self):
        for calls in self.lists():
            looks = [("value",)] + [("rod", rod) for rod in range(12)]
            calls = calls[:387]
            answered = ask(*calls, *looks)
            hand = Hand()
            for (name, *given), answer in zip(calls, answered[:-13], strict=True):
                if answer[0] >= 0:
                    hand = follow(hand, name, given, answer)
            wanted = [[5 * five + up, five, up] for five, up in zip(hand.five, hand.up, strict=True)]
            self.assertEqual(answered[-13:], [[0, hand.shown()]] + wanted)

    def test_the_same_moves_as_the_second_reckoner(self):
        for calls in self.lists():
            second = Second()
            for call, answer in zip(calls, ask(*calls), strict=True):
                self.assertEqual(answer, second.call(*call), call)

    def test_both_refused_and_done(self):
        """The lists are of use only if every call is met in both ways."""
        met = set()
        for calls in self.lists():
            for call, answer in zip(calls, ask(*calls), strict=True):
                met.add((call[0], answer[0] < 0))
        both = {"set", "add", "take", "times", "over", "move", "rod"}
        self.assertEqual(met, {(name, refused) for name in both for refused in (False, True)}
                         | {("start", False), ("value", False)})


class DigitByDigit(unittest.TestCase):

    def test_no_bead_is_moved_that_needn_t_be(self):
        for shown in range(10):
            for digit in range(1, 10 - shown):
                before, after = divmod(shown, 5), divmod(shown + digit, 5)
                answer = ask(("start",), ("set", shown), ("add", digit))[2]
                moved = sum(answer[3::3])
                self.assertEqual(moved, abs(after[0] - before[0]) + abs(after[1] - before[1]))

    def test_each_digit_at_each_rod(self):
        for rod in range(11):
            for shown in range(10, 100):
                for digit in range(1, 10):
                    calls = [("start",), ("set", shown * 10 ** rod), ("take", digit * 10 ** rod)]
                    calls.extend([("add", digit * 10 ** rod), ("value",)])
                    second = Second()
                    self.assertEqual(ask(*calls), [second.call(*call) for call in calls])


class WholeList(unittest.TestCase):

    def test_how_many_numbers_ahead_of_each_answer(self):
        handed = [0, 1, 7, 2, 3, 3, 11, 3, 4, 4, 2, 3, 5, 4, 6, 0, 0, 1, 7, 8, 0, 8, 12, 5, 0, 6, 0, 2, 2, 0, 7]
        wanted = [
            1, 0,
            7, 2, 0, 2, 1, 0, 0, 2,
            10, 3, 0, 3, 1, 0, 1, 2, 1, 0, 1,
            1, -33,
            10, 3, 1, 1, 1, 0, 2, 1, 0, 0, 1,
            13, 4, 0, 3, 1, 0, 1, 1, 0, 2, 1, 0, 0, 1,
            8, 2, 0, 3, 1, 0, 0, 1, 1,
            1, 0,
            2, 0, 3,
            3, 3, 0, 3,
            1, -22,
            1, -22,
            1, -13,
            1, 0,
            2, 0, 0,
        ]
        self.assertEqual(answers(handed), wanted)

    def test_a_start_in_the_middle(self):
        tail = [("value",), ("over", 7), ("move", 2, 0, 3), ("rod", 2), ("add", 999), ("over", 13), ("value",)]
        fresh = ask(("start",), *tail)
        again = ask(("start",), ("set", 987654321098), ("move", 0, 1, 2), ("over", 5), ("start",), *tail)
        self.assertEqual(again[5:], fresh[1:])

    def test_four_hundred_calls_of_every_kind(self):
        circle = [("set", 987654321), ("add", 12345), ("take", 54321), ("times", 98765, 4321), ("over", 37),
                  ("move", 11, 2, 1), ("value",), ("rod", 11), ("move", 11, 2, 1), ("over", 0)]
        calls = ([("start",)] + circle * 40)[:400]
        got = ask(*calls)
        self.assertEqual(len(got), 400)
        second = Second()
        self.assertEqual(got, [second.call(*call) for call in calls])

    def test_four_hundred_long_tellings(self):
        calls = [("start",)] + [("times", 999999, 999999), ("add", 1999998), ("over", 1)] * 133
        got = ask(*calls)
        self.assertEqual(len(got), 400)
        self.assertEqual(got[3][-1], 999999999999)
        self.assertEqual(got[1:4], got[-3:])

    def test_a_start_alone_and_many(self):
        self.assertEqual(answers([0]), [1, 0])
        self.assertEqual(answers([0] * 400), [1, 0] * 400)

    def test_whole_numbers_alone(self):
        got = answers(as_list(*Draw(7).calls(400)))
        self.assertIs(type(got), list)
        self.assertEqual({type(number) for number in got}, {int})
        self.assertEqual(len(cut(got)), 400)

    def test_nothing_kept_and_nothing_changed(self):
        handed = as_list(*Draw(11).calls(400))
        before = list(handed)
        first = answers(handed)
        answers(as_list(*Draw(12).calls(400)))
        self.assertEqual(answers(handed), first)
        self.assertEqual(handed, before)


if __name__ == "__main__":
    unittest.main()
