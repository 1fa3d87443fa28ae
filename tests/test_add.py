"""Promise 2: add; promise 5 of its moves."""

import unittest

from tests.told import GREATEST, LIMIT, Hand, ask, ask_last, telling


def added(shown, number):
    return ask_last(("start",), ("set", shown), ("add", number))


class Add(unittest.TestCase):

    def test_0_makes_no_move(self):
        for shown in (0, 5, 999999999999):
            self.assertEqual(added(shown, 0), [0])

    def test_lower_beads_when_there_are_as_many_down(self):
        self.assertEqual(added(0, 4), telling((0, 0, 4)))
        self.assertEqual(added(2, 2), telling((0, 0, 2)))
        self.assertEqual(added(6, 3), telling((0, 0, 3)))

    def test_else_the_upper_bead_and_lower_beads_down(self):
        self.assertEqual(added(4, 1), telling((0, 2, 1), (0, 1, 4)))
        self.assertEqual(added(3, 2), telling((0, 2, 1), (0, 1, 3)))
        self.assertEqual(added(2, 3), telling((0, 2, 1), (0, 1, 2)))
        self.assertEqual(added(4, 4), telling((0, 2, 1), (0, 1, 1)))

    def test_a_digit_of_5_is_one_move(self):
        for shown in range(5):
            self.assertEqual(added(shown, 5), telling((0, 2, 1)))

    def test_from_6_on_the_upper_bead_then_lower_beads_up(self):
        self.assertEqual(added(3, 6), telling((0, 2, 1), (0, 0, 1)))
        self.assertEqual(added(1, 8), telling((0, 2, 1), (0, 0, 3)))

    def test_10_less_the_digit_comes_off_then_1_is_added(self):
        self.assertEqual(added(8, 7), telling((0, 1, 3), (1, 0, 1)))
        self.assertEqual(added(6, 6), telling((0, 3, 1), (0, 0, 1), (1, 0, 1)))
        self.assertEqual(added(5, 5), telling((0, 3, 1), (1, 0, 1)))
        self.assertEqual(added(7, 4), telling((0, 3, 1), (0, 1, 1), (1, 0, 1)))

    def test_the_1_may_need_the_upper_bead(self):
        self.assertEqual(added(49, 1), telling((0, 3, 1), (0, 1, 4), (1, 2, 1), (1, 1, 4)))

    def test_9_and_1_through_all_rods(self):
        moves = []
        for rod in range(11):
            moves.extend([(rod, 3, 1), (rod, 1, 4)])
        moves.append((11, 0, 1))
        self.assertEqual(added(10 ** 11 - 1, 1), telling(*moves))

    def test_the_highest_digit_first(self):
        wanted = telling((2, 0, 1), (1, 0, 2), (0, 0, 3))
        self.assertEqual(added(0, 123), wanted)
        # Lowest first, the ones would come off ahead of the tens.
        wanted = telling((1, 1, 1), (2, 0, 1), (0, 1, 1), (1, 0, 1))
        self.assertEqual(added(11, 99), wanted)

    def test_not_cleared_first(self):
        got = ask(("start",), ("add", 1), ("add", 1), ("add", 1))
        self.assertEqual(got[1:], [telling((0, 0, 1))] * 3)

    def test_every_move_can_be_made(self):
        for shown in list(range(40)) + [94, 95, 99, 444, 995, 999]:
            for number in range(120):
                hand = Hand()
                got = ask(("start",), ("set", shown), ("add", number))
                hand.follow(got[1])
                self.assertEqual(hand.follow(got[2]), shown + number)

    def test_many_after_one_another(self):
        hand = Hand()
        number = 1
        total = 0
        calls = [("start",)]
        while total + number < LIMIT:
            calls.append(("add", number))
            total += number
            number = 3 * number + 7
        for answer in ask(*calls)[1:]:
            hand.follow(answer)
        self.assertEqual(hand.shown(), total)


class AddRefused(unittest.TestCase):

    def test_the_sum_just_below(self):
        self.assertEqual(added(0, LIMIT - 1)[0], 24)
        self.assertEqual(added(1, LIMIT - 2)[0], 24)
        hand = Hand()
        got = ask(("start",), ("set", 500000000001), ("add", 499999999998))
        hand.follow(got[1])
        self.assertEqual(hand.follow(got[2]), LIMIT - 1)

    def test_the_sum_just_at_the_limit(self):
        self.assertEqual(added(1, LIMIT - 1), [-75])
        self.assertEqual(added(LIMIT - 1, 1), [-75])
        self.assertEqual(added(500000000001, 499999999999), [-75])
        self.assertEqual(added(LIMIT - 1, LIMIT - 1), [-75])

    def test_the_number_is_too_much(self):
        for number in (LIMIT, LIMIT + 1, GREATEST):
            self.assertEqual(added(0, number), [-75])
            self.assertEqual(added(3, number), [-75])

    def test_what_is_shown_stays(self):
        got = ask(("start",), ("set", 42), ("add", LIMIT - 42), ("add", GREATEST), ("set", 0))
        self.assertEqual(got[2:], [[-75], [-75], telling((1, 1, 4), (0, 1, 2))])


if __name__ == "__main__":
    unittest.main()
