"""Promise 1: start."""

import unittest

from beadframedesk.frame import answers
from tests.told import LIMIT, ask, telling


class Start(unittest.TestCase):

    def test_at_the_beginning(self):
        self.assertEqual(answers([0]), [1, 0])

    def test_nothing_is_shown_at_the_beginning(self):
        # One more than nothing is refused; and to clear nothing takes no move.
        self.assertEqual(ask(("start",), ("take", 1), ("set", 0)), [[0], [-33], [0]])

    def test_again_in_the_middle_shows_nothing(self):
        got = ask(("start",), ("set", 987654321098), ("start",), ("take", 1), ("set", 0))
        self.assertEqual(got[2:], [[0], [-33], [0]])

    def test_again_in_the_middle_has_room_for_all(self):
        got = ask(("start",), ("set", LIMIT - 1), ("start",), ("add", LIMIT - 1))
        self.assertEqual(got[3], got[1])

    def test_again_clears_upper_and_lower_beads_of_all_rods(self):
        for digit in range(1, 10):
            number = digit * 111111111111
            got = ask(("start",), ("set", number), ("start",), ("add", number))
            self.assertEqual(got[3], got[1])

    def test_again_and_again(self):
        got = ask(("start",), ("start",), ("add", 3), ("start",), ("start",), ("add", 4))
        self.assertEqual(got, [[0], [0], telling((0, 0, 3)), [0], [0], telling((0, 0, 4))])

    def test_again_after_a_refusal(self):
        got = ask(("start",), ("add", 8), ("take", 9), ("start",), ("add", 5))
        self.assertEqual(got[2:], [[-33], [0], telling((0, 2, 1))])


if __name__ == "__main__":
    unittest.main()
