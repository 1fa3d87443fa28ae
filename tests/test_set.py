"""Promise 2: set; promise 5 of its moves."""

import unittest

from tests.told import GREATEST, LIMIT, Hand, ask, ask_last, telling


class SetAnew(unittest.TestCase):

    def test_nothing(self):
        self.assertEqual(ask_last(("start",), ("set", 0)), [0])

    def test_each_digit(self):
        upper = (0, 2, 1)
        wanted = {
            1: [(0, 0, 1)], 2: [(0, 0, 2)], 3: [(0, 0, 3)], 4: [(0, 0, 4)],
            5: [upper], 6: [upper, (0, 0, 1)], 7: [upper, (0, 0, 2)],
            8: [upper, (0, 0, 3)], 9: [upper, (0, 0, 4)],
        }
        for digit, moves in wanted.items():
            self.assertEqual(ask_last(("start",), ("set", digit)), telling(*moves))

    def test_the_highest_digit_first_and_none_for_0(self):
        wanted = telling((4, 2, 1), (4, 0, 2), (2, 0, 3), (0, 2, 1))
        self.assertEqual(ask_last(("start",), ("set", 70305)), wanted)

    def test_the_greatest_number(self):
        moves = []
        for rod in range(11, -1, -1):
            moves.extend([(rod, 2, 1), (rod, 0, 4)])
        self.assertEqual(ask_last(("start",), ("set", 999999999999)), telling(*moves))

    def test_the_highest_rod_alone(self):
        self.assertEqual(ask_last(("start",), ("set", 10 ** 11)), telling((11, 0, 1)))


class SetAgain(unittest.TestCase):

    def test_cleared_first_from_the_highest_rod_on(self):
        got = ask_last(("start",), ("set", 9053), ("set", 16))
        wanted = telling((3, 3, 1), (3, 1, 4), (1, 3, 1), (0, 1, 3),
                         (1, 0, 1), (0, 2, 1), (0, 0, 1))
        self.assertEqual(got, wanted)

    def test_the_same_number_is_cleared_too(self):
        got = ask_last(("start",), ("set", 6), ("set", 6))
        self.assertEqual(got, telling((0, 3, 1), (0, 1, 1), (0, 2, 1), (0, 0, 1)))

    def test_0_clears_alone(self):
        moves = []
        for rod in range(11, -1, -1):
            moves.extend([(rod, 3, 1), (rod, 1, 4)])
        got = ask_last(("start",), ("set", LIMIT - 1), ("set", 0))
        self.assertEqual(got, telling(*moves))

    def test_clearing_is_made_too(self):
        got = ask_last(("start",), ("set", 77), ("set", 0), ("set", 0))
        self.assertEqual(got, [0])

    def test_every_move_can_be_made(self):
        numbers = [4, 1, 5, 9, 10 ** 11 - 1, 10 ** 11, 999999999999, 0, 123456789012,
                   505050505050, 49, 987654321098]
        hand = Hand()
        got = ask(("start",), *[("set", number) for number in numbers])
        for number, answer in zip(numbers, got[1:], strict=True):
            self.assertEqual(hand.follow(answer), number)


class SetRefused(unittest.TestCase):

    def test_too_much(self):
        for number in (LIMIT, LIMIT + 1, GREATEST):
            self.assertEqual(ask_last(("start",), ("set", number)), [-75])

    def test_what_is_shown_stays(self):
        got = ask(("start",), ("set", 42), ("set", LIMIT), ("set", GREATEST), ("set", 0))
        self.assertEqual(got[2:], [[-75], [-75], telling((1, 1, 4), (0, 1, 2))])


if __name__ == "__main__":
    unittest.main()
