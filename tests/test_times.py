"""Promise 3: times; promise 5 of its moves."""

import unittest

from tests.told import GREATEST, LIMIT, Hand, ask, ask_last, telling


def multiplied(a, b):
    return ask_last(("start",), ("times", a, b))


class Times(unittest.TestCase):

    def test_one_digit(self):
        self.assertEqual(multiplied(2, 3), telling((0, 2, 1), (0, 0, 1)))
        self.assertEqual(multiplied(1, 1), telling((0, 0, 1)))

    def test_a_product_of_two_digits(self):
        self.assertEqual(multiplied(7, 8), telling((1, 2, 1), (0, 2, 1), (0, 0, 1)))
        self.assertEqual(multiplied(9, 9), telling((1, 2, 1), (1, 0, 3), (0, 0, 1)))

    def test_a_product_that_ends_in_0(self):
        self.assertEqual(multiplied(5, 2), telling((1, 0, 1)))
        self.assertEqual(multiplied(5, 8), telling((1, 0, 4)))

    def test_at_the_rod_of_both_places_together(self):
        self.assertEqual(multiplied(200, 30), telling((3, 2, 1), (3, 0, 1)))
        self.assertEqual(multiplied(70000, 8000), telling((8, 2, 1), (7, 2, 1), (7, 0, 1)))

    def test_the_highest_digits_first(self):
        wanted = telling((2, 0, 3), (1, 0, 4), (1, 1, 4), (2, 0, 1), (0, 2, 1), (0, 0, 3))
        self.assertEqual(multiplied(12, 34), wanted)

    def test_the_digits_of_a_are_walked_outside(self):
        # 3 by 1, 3 by 2, 4 by 1, 4 by 2: another way to 408 than above.
        wanted = telling((2, 0, 3), (1, 2, 1), (1, 0, 1), (1, 3, 1), (1, 1, 1),
                         (2, 0, 1), (0, 2, 1), (0, 0, 3))
        self.assertEqual(multiplied(34, 12), wanted)

    def test_0(self):
        for a, b in ((0, 0), (0, 1), (1, 0), (0, LIMIT - 1), (LIMIT - 1, 0)):
            self.assertEqual(multiplied(a, b), [0])

    def test_cleared_first(self):
        got = ask_last(("start",), ("set", 9053), ("times", 2, 2))
        wanted = telling((3, 3, 1), (3, 1, 4), (1, 3, 1), (0, 1, 3), (0, 0, 4))
        self.assertEqual(got, wanted)

    def test_0_clears(self):
        wanted = telling((1, 1, 4), (0, 1, 2))
        self.assertEqual(ask_last(("start",), ("set", 42), ("times", 0, 8)), wanted)
        self.assertEqual(ask_last(("start",), ("set", 42), ("times", 8, 0)), wanted)
        self.assertEqual(ask_last(("start",), ("set", 42), ("times", 0, 0)), wanted)

    def test_every_move_can_be_made(self):
        numbers = [0, 1, 5, 9, 10, 47, 55, 98, 99, 101, 505, 999, 90909, 123456, 999999]
        for a in numbers:
            for b in numbers:
                hand = Hand()
                got = ask(("start",), ("set", 50607080910), ("times", a, b), ("add", 1))
                hand.follow(got[1])
                self.assertEqual(hand.follow(got[2]), a * b)
                self.assertEqual(hand.follow(got[3]), a * b + 1)


class TimesRefused(unittest.TestCase):

    def test_a_product_just_below(self):
        for a, b in ((999999, 1000001), (1, LIMIT - 1), (LIMIT - 1, 1), (3, 333333333333)):
            hand = Hand()
            self.assertEqual(hand.follow(multiplied(a, b)), LIMIT - 1)

    def test_a_product_at_the_limit_or_more(self):
        for a, b in ((10 ** 6, 10 ** 6), (10, 10 ** 11), (2, 5 * 10 ** 11),
                     (LIMIT - 1, 2), (LIMIT - 1, LIMIT - 1), (1000001, 1000001)):
            self.assertEqual(multiplied(a, b), [-75])
            self.assertEqual(multiplied(b, a), [-75])

    def test_a_factor_too_great(self):
        for great in (LIMIT, LIMIT + 1, GREATEST):
            for other in (0, 1, 7, great):
                self.assertEqual(multiplied(great, other), [-75])
                self.assertEqual(multiplied(other, great), [-75])

    def test_what_is_shown_stays(self):
        got = ask(("start",), ("set", 42), ("times", LIMIT, 0), ("times", 0, GREATEST),
                  ("times", 10 ** 6, 10 ** 6), ("set", 0))
        self.assertEqual(got[2:], [[-75], [-75], [-75], telling((1, 1, 4), (0, 1, 2))])


if __name__ == "__main__":
    unittest.main()
