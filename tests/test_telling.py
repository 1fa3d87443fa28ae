"""Promise 5: how many moves, and these in order; and the form of the answers."""

import unittest

from beadframedesk.frame import answers
from tests.told import LIMIT, Hand, as_list, ask, moves_of


class Telling(unittest.TestCase):

    def test_each_call_behind_how_many_numbers_it_answers(self):
        handed = [0, 1, 7, 2, 3, 3, 11, 4, 2, 3, 1, 0]
        wanted = [
            1, 0,
            7, 2, 0, 2, 1, 0, 0, 2,
            10, 3, 0, 3, 1, 0, 1, 2, 1, 0, 1,
            1, -33,
            10, 3, 1, 1, 1, 0, 2, 1, 0, 0, 1,
            7, 2, 0, 3, 1, 0, 1, 1,
        ]
        self.assertEqual(answers(handed), wanted)

    def test_no_move_is_0_alone(self):
        handed = as_list(("start",), ("set", 0), ("add", 0), ("take", 0), ("times", 0, 0))
        self.assertEqual(answers(handed), [1, 0] * 5)

    def test_a_refusal_is_its_number_alone(self):
        handed = as_list(("start",), ("set", LIMIT), ("add", LIMIT), ("take", 1),
                         ("times", LIMIT, 0))
        self.assertEqual(answers(handed), [1, 0, 1, -75, 1, -75, 1, -33, 1, -75])

    def test_a_refused_call_leaves_no_moves_to_be_told(self):
        got = ask(("start",), ("add", 3), ("take", 4), ("add", 0), ("take", 3))
        self.assertEqual(got[2:], [[-33], [0], [1, 0, 1, 3]])

    def test_rod_kind_and_beads_stand_in_this_order(self):
        got = ask(("start",), ("set", 30000000))
        self.assertEqual(got[1], [1, 7, 0, 3])

    def test_the_moves_of_all_calls_follow_one_another(self):
        calls = [("start",)]
        wanted = []
        shown = 0
        for step in range(1, 101):
            calls.extend([("add", 7919 * step), ("take", 104 * step), ("times", step, 98765)])
            shown += 7919 * step
            wanted.append(shown)
            wanted.append(shown - 104 * step)
            shown = step * 98765
            wanted.append(shown)
        hand = Hand()
        got = [hand.follow(answer) for answer in ask(*calls)[1:]]
        self.assertEqual(got, wanted)

    def test_four_hundred_calls(self):
        got = ask(*([("start",)] + [("add", 2500000000)] * 399))
        self.assertEqual(len(got), 400)
        hand = Hand()
        for answer in got[1:]:
            hand.follow(answer)
        self.assertEqual(hand.shown(), 399 * 2500000000)

    def test_whole_numbers_alone(self):
        handed = as_list(("start",), ("set", 99), ("add", 1), ("take", 1), ("times", 5, 25))
        got = answers(handed)
        self.assertIs(type(got), list)
        self.assertEqual({type(number) for number in got}, {int})

    def test_how_many_is_how_many_follow(self):
        for answer in ask(("start",), ("set", 8642), ("add", 9999), ("take", 777), ("times", 66, 77))[1:]:
            self.assertEqual(len(moves_of(answer)), answer[0])


if __name__ == "__main__":
    unittest.main()
