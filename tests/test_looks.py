"""Promise 7: value and rod."""

import unittest

from tests.told import GREATEST, LIMIT, after, ask, ask_last


class Value(unittest.TestCase):

    def test_a_new_frame(self):
        self.assertEqual(ask(("start",), ("value",)), [[0], [0, 0]])

    def test_after_each_other_call(self):
        got = ask(("start",), ("set", 408), ("value",), ("add", 97), ("value",), ("take", 6), ("value",),
                  ("times", 12, 34), ("value",), ("over", 100), ("value",), ("move", 3, 2, 1), ("value",),
                  ("rod", 0), ("value",), ("value",), ("start",), ("value",))
        looked = [got[at] for at in (2, 4, 6, 8, 10, 12, 14, 15, 17)]
        wanted = [408, 505, 499, 408, 8, 5008, 5008, 5008, 0]
        self.assertEqual(looked, [[0, shown] for shown in wanted])

    def test_after_refusals(self):
        got = ask(("start",), ("set", 408), ("set", LIMIT), ("value",), ("add", LIMIT - 1), ("value",),
                  ("take", 409), ("value",), ("times", GREATEST, 0), ("value",), ("over", 0), ("value",),
                  ("move", 0, 0, 2), ("value",), ("rod", 12), ("value",))
        self.assertEqual(got[3::2], [[0, 408]] * 7)

    def test_each_rod_counts_ten_times_the_one_below(self):
        for rod in range(12):
            for digit in range(10):
                self.assertEqual(after(("start",), ("add", digit * 10 ** rod)), digit * 10 ** rod)

    def test_all_that_a_frame_can_show(self):
        for number in (0, 1, 5, 123456789012, 987654321098, 10 ** 11, LIMIT - 1):
            self.assertEqual(after(("start",), ("set", number)), number)


class Rod(unittest.TestCase):

    def test_a_new_frame(self):
        for rod in range(12):
            self.assertEqual(ask_last(("start",), ("rod", rod)), [0, 0, 0])

    def test_each_digit_on_each_rod(self):
        wanted = ([0, 0, 0], [1, 0, 1], [2, 0, 2], [3, 0, 3], [4, 0, 4],
                  [5, 1, 0], [6, 1, 1], [7, 1, 2], [8, 1, 3], [9, 1, 4])
        for rod in range(12):
            for digit in range(10):
                got = ask_last(("start",), ("set", digit * 10 ** rod), ("rod", rod))
                self.assertEqual(got, wanted[digit])

    def test_rods_from_the_lowest(self):
        got = ask(("start",), ("set", 210987654321), *[("rod", rod) for rod in range(12)])
        self.assertEqual([answer[0] for answer in got[2:]], [1, 2, 3, 4, 5, 6, 7, 8, 9, 0, 1, 2])
        self.assertEqual([answer[1] for answer in got[2:]], [0, 0, 0, 0, 1, 1, 1, 1, 1, 0, 0, 0])
        self.assertEqual([answer[2] for answer in got[2:]], [1, 2, 3, 4, 0, 1, 2, 3, 4, 0, 1, 2])

    def test_a_number_is_shown_in_one_way(self):
        ways = (
            [("set", 10)],
            [("set", 9), ("add", 1)],
            [("set", 11), ("take", 1)],
            [("times", 5, 2)],
            [("set", 43), ("over", 11)],
            [("move", 1, 0, 1)],
            [("add", 6), ("add", 4)],
        )
        for way in ways:
            got = ask(("start",), *way, ("rod", 0), ("rod", 1), ("rod", 2))
            self.assertEqual(got[-3:], [[0, 0, 0], [1, 0, 1], [0, 0, 0]])

    def test_no_such_rod(self):
        for rod in (12, 13, 24, 256, 2 ** 31, 4294967295):
            self.assertEqual(ask_last(("start",), ("rod", rod)), [-22])
            self.assertEqual(ask_last(("start",), ("set", LIMIT - 1), ("rod", rod)), [-22])

    def test_looking_moves_nothing(self):
        looks = [("rod", rod) for rod in range(14)] + [("value",)]
        got = ask(("start",), ("set", 567), *looks, ("add", 0), *looks)
        self.assertEqual(got[2:17], got[18:])
        self.assertEqual(got[17], [0])


if __name__ == "__main__":
    unittest.main()
