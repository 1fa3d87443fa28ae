"""Promise 4: over; promise 5 of its moves and its quotient."""

import unittest

from tests.told import GREATEST, LIMIT, Hand, after, ask, ask_last, beads_after, dividing, moves_of, telling


def divided(shown, number):
    return ask_last(("start",), ("set", shown), ("over", number))


def rest(shown, number):
    return after(("start",), ("set", shown), ("over", number))


class Over(unittest.TestCase):

    def test_one_digit(self):
        self.assertEqual(divided(7, 2), dividing(3, (0, 3, 1), (0, 1, 1)))
        self.assertEqual(rest(7, 2), 1)
        self.assertEqual(divided(4, 2), dividing(2, (0, 1, 4)))
        self.assertEqual(rest(4, 2), 0)

    def test_the_highest_place_first(self):
        wanted = dividing(34, (2, 1, 3), (2, 1, 1), (1, 0, 4), (1, 1, 4), (0, 3, 1), (0, 1, 3))
        self.assertEqual(divided(408, 12), wanted)
        self.assertEqual(rest(408, 12), 0)

    def test_a_rest_stays(self):
        wanted = dividing(34, (2, 1, 3), (2, 1, 1), (1, 0, 4), (1, 1, 4), (0, 3, 1), (0, 1, 3))
        self.assertEqual(divided(419, 12)[-1], 34)
        self.assertEqual(rest(419, 12), 11)
        self.assertEqual(divided(409, 12), wanted)
        self.assertEqual(rest(409, 12), 1)

    def test_a_0_within_the_quotient(self):
        wanted = dividing(102, (3, 1, 1), (2, 1, 2), (1, 1, 2), (0, 1, 4))
        self.assertEqual(divided(1224, 12), wanted)
        self.assertEqual(rest(1224, 12), 0)

    def test_a_0_at_the_end_of_the_quotient(self):
        self.assertEqual(divided(625, 6), dividing(104, (2, 3, 1), (2, 1, 1), (1, 1, 2), (0, 3, 1), (0, 0, 1)))
        self.assertEqual(rest(625, 6), 1)
        self.assertEqual(divided(605, 6), dividing(100, (2, 3, 1), (2, 1, 1)))
        self.assertEqual(rest(605, 6), 5)

    def test_zeros_on_both_sides(self):
        wanted = dividing(1000001, *[move for rod in range(11, -1, -1) for move in ((rod, 3, 1), (rod, 1, 4))])
        self.assertEqual(divided(999999999999, 999999), wanted)

    def test_one_digit_more_than_the_divisor(self):
        self.assertEqual(divided(56, 7), dividing(8, (1, 3, 1), (0, 3, 1), (0, 1, 1)))
        # 56 from 60: the 6 isn't there, so a ten is taken and 4 put on.
        self.assertEqual(divided(60, 7), dividing(8, (1, 3, 1), (1, 1, 1), (0, 0, 4)))
        self.assertEqual(rest(60, 7), 4)

    def test_a_digit_times_the_divisor_that_ends_in_0(self):
        self.assertEqual(divided(45, 5), dividing(9, (1, 1, 4), (0, 3, 1)))
        self.assertEqual(divided(40, 5), dividing(8, (1, 1, 4)))

    def test_the_digit_times_the_divisor_at_once(self):
        # 8 in one go, not 2 four times.
        self.assertEqual(divided(8, 2), dividing(4, (0, 3, 1), (0, 1, 3)))

    def test_a_divisor_that_ends_in_0(self):
        self.assertEqual(divided(1234, 100), dividing(12, (3, 1, 1), (2, 1, 2)))
        self.assertEqual(rest(1234, 100), 34)

    def test_by_1(self):
        self.assertEqual(divided(305, 1), dividing(305, (2, 1, 3), (0, 3, 1)))
        self.assertEqual(rest(305, 1), 0)

    def test_what_is_shown_by_itself(self):
        self.assertEqual(divided(305, 305), dividing(1, (2, 1, 3), (0, 3, 1)))
        self.assertEqual(rest(305, 305), 0)


class OverEdges(unittest.TestCase):

    def test_more_than_is_shown(self):
        for shown, number in ((1, 2), (41, 42), (998, 999), (LIMIT - 2, LIMIT - 1), (5, LIMIT - 1)):
            self.assertEqual(divided(shown, number), [0, 0])
            self.assertEqual(rest(shown, number), shown)

    def test_nothing_is_shown(self):
        for number in (1, 9, 10, 10 ** 11, LIMIT - 1):
            self.assertEqual(ask_last(("start",), ("over", number)), [0, 0])
            self.assertEqual(rest(0, number), 0)

    def test_the_greatest_that_can_be_shown(self):
        moves = [move for rod in range(11, -1, -1) for move in ((rod, 3, 1), (rod, 1, 4))]
        self.assertEqual(divided(999999999999, 1), dividing(999999999999, *moves))
        self.assertEqual(divided(999999999999, 999999999999), dividing(1, *moves))
        self.assertEqual(divided(999999999999, 9), dividing(111111111111, *moves))
        self.assertEqual(rest(999999999999, 1), 0)
        self.assertEqual(rest(999999999999, 999999999999), 0)

    def test_the_greatest_by_others(self):
        for number in (2, 3, 7, 10, 11, 10 ** 6, 999998, 10 ** 11, 500000000000, LIMIT - 2):
            self.assertEqual(divided(999999999999, number)[-1], 999999999999 // number)
            self.assertEqual(rest(999999999999, number), 999999999999 % number)

    def test_the_highest_place(self):
        self.assertEqual(divided(900000000000, 2)[-1], 450000000000)
        self.assertEqual(divided(800000000000, 2), dividing(400000000000, (11, 3, 1), (11, 1, 3)))
        self.assertEqual(divided(10 ** 11, 10 ** 11), dividing(1, (11, 1, 1)))

    def test_every_move_can_be_made(self):
        for shown in list(range(130)) + [505, 999, 1000, 5000, 10400, 99999, 10 ** 11, LIMIT - 1]:
            for number in list(range(1, 60)) + [99, 100, 101, 4999, 5000, 98765, 10 ** 11]:
                hand = Hand()
                told, answer = ask(("start",), ("set", shown), ("over", number))[1:]
                hand.follow(told)
                self.assertEqual(hand.follow(answer[:-1]), shown % number)
                self.assertEqual(answer[-1], shown // number)

    def test_divided_again_and_again(self):
        got = ask(("start",), ("set", 98765), ("over", 1000), ("over", 100), ("over", 10), ("over", 5))
        self.assertEqual([answer[-1] for answer in got[2:]], [98, 7, 6, 1])

    def test_how_many_moves_without_the_quotient(self):
        answer = divided(98765, 43)
        self.assertEqual(len(answer), 2 + 3 * answer[0])
        self.assertEqual(len(moves_of(answer[:-1])), answer[0])


class OverRefused(unittest.TestCase):

    def test_0_and_too_much(self):
        for number in (0, LIMIT, LIMIT + 1, 10 ** 13, GREATEST):
            for shown in (0, 1, 42, LIMIT - 1):
                self.assertEqual(divided(shown, number), [-22])

    def test_the_greatest_divisor_is_not_refused(self):
        self.assertEqual(divided(7, LIMIT - 1), [0, 0])

    def test_the_frame_is_as_it_was(self):
        before = [("start",), ("set", 987654321056)]
        for number in (0, LIMIT, GREATEST):
            self.assertEqual(after(*before, ("over", number)), 987654321056)
            self.assertEqual(beads_after(*before, ("over", number)), beads_after(*before))

    def test_no_move_is_left_to_be_told(self):
        got = ask(("start",), ("set", 42), ("over", 0), ("over", 43), ("add", 0), ("take", 42))
        self.assertEqual(got[2:], [[-22], [0, 0], [0], telling((1, 1, 4), (0, 1, 2))])


if __name__ == "__main__":
    unittest.main()
