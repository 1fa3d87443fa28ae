"""Promise 2: take; promise 5 of its moves."""

import unittest

from tests.told import GREATEST, LIMIT, Hand, ask, ask_last, telling


def taken(shown, number):
    return ask_last(("start",), ("set", shown), ("take", number))


class Take(unittest.TestCase):

    def test_0_makes_no_move(self):
        for shown in (0, 5, 999999999999):
            self.assertEqual(taken(shown, 0), [0])

    def test_lower_beads_when_there_are_as_many_up(self):
        self.assertEqual(taken(4, 1), telling((0, 1, 1)))
        self.assertEqual(taken(9, 4), telling((0, 1, 4)))
        self.assertEqual(taken(7, 2), telling((0, 1, 2)))

    def test_else_the_upper_bead_and_lower_beads_up(self):
        self.assertEqual(taken(5, 1), telling((0, 3, 1), (0, 0, 4)))
        self.assertEqual(taken(6, 2), telling((0, 3, 1), (0, 0, 3)))
        self.assertEqual(taken(7, 4), telling((0, 3, 1), (0, 0, 1)))

    def test_a_digit_of_5_is_one_move(self):
        for shown in range(5, 10):
            self.assertEqual(taken(shown, 5), telling((0, 3, 1)))

    def test_from_6_on_the_upper_bead_then_lower_beads_down(self):
        self.assertEqual(taken(9, 6), telling((0, 3, 1), (0, 1, 1)))
        self.assertEqual(taken(9, 9), telling((0, 3, 1), (0, 1, 4)))

    def test_1_is_taken_away_then_10_less_the_digit_put_on(self):
        self.assertEqual(taken(10, 1), telling((1, 1, 1), (0, 2, 1), (0, 0, 4)))
        self.assertEqual(taken(12, 7), telling((1, 1, 1), (0, 2, 1), (0, 1, 2)))
        self.assertEqual(taken(14, 5), telling((1, 1, 1), (0, 2, 1)))
        self.assertEqual(taken(11, 8), telling((1, 1, 1), (0, 0, 2)))

    def test_the_1_may_need_the_upper_bead(self):
        wanted = telling((1, 3, 1), (1, 0, 4), (0, 2, 1), (0, 0, 4))
        self.assertEqual(taken(50, 1), wanted)

    def test_1_through_all_rods(self):
        moves = [(11, 1, 1)]
        for rod in range(10, -1, -1):
            moves.extend([(rod, 2, 1), (rod, 0, 4)])
        self.assertEqual(taken(10 ** 11, 1), telling(*moves))

    def test_the_highest_digit_first(self):
        self.assertEqual(taken(444, 123), telling((2, 1, 1), (1, 1, 2), (0, 1, 3)))
        self.assertEqual(taken(105, 99), telling((2, 1, 1), (1, 0, 1), (1, 1, 1), (0, 0, 1)))

    def test_all_that_is_shown(self):
        moves = []
        for rod in range(11, -1, -1):
            moves.extend([(rod, 3, 1), (rod, 1, 4)])
        self.assertEqual(taken(999999999999, 999999999999), telling(*moves))
        self.assertEqual(taken(5, 5), telling((0, 3, 1)))

    def test_every_move_can_be_made(self):
        for shown in list(range(120)) + [1000, 5000, 5050, 10400, 99999]:
            for number in range(min(shown, 119) + 1):
                hand = Hand()
                got = ask(("start",), ("set", shown), ("take", number))
                hand.follow(got[1])
                self.assertEqual(hand.follow(got[2]), shown - number)

    def test_many_after_one_another(self):
        hand = Hand()
        left = LIMIT - 1
        number = 1
        calls = [("start",), ("add", left)]
        while number <= left:
            calls.append(("take", number))
            left -= number
            number = 3 * number + 7
        for answer in ask(*calls)[1:]:
            hand.follow(answer)
        self.assertEqual(hand.shown(), left)


class TakeRefused(unittest.TestCase):

    def test_one_more_than_is_shown(self):
        self.assertEqual(taken(0, 1), [-33])
        self.assertEqual(taken(8, 9), [-33])
        self.assertEqual(taken(100, 101), [-33])
        self.assertEqual(taken(LIMIT - 1, LIMIT), [-33])

    def test_a_number_that_no_frame_shows(self):
        for number in (LIMIT, LIMIT + 1, GREATEST):
            self.assertEqual(taken(7, number), [-33])

    def test_what_is_shown_stays(self):
        got = ask(("start",), ("set", 42), ("take", 43), ("take", GREATEST), ("take", 42))
        self.assertEqual(got[2:], [[-33], [-33], telling((1, 1, 4), (0, 1, 2))])


if __name__ == "__main__":
    unittest.main()
