"""Promise 6: move."""

import unittest

from tests.told import GREATEST, LIMIT, Hand, after, ask, ask_last, beads_after, dividing, telling

FURTHEST = 4294967295
NOTHING = [(0, 0)] * 12


def rod_after(rod, *moves):
    """What a rod answers once these moves were made on it."""
    made = [("move", rod, kind, beads) for kind, beads in moves]
    return ask_last(("start",), *made, ("rod", rod))


class Made(unittest.TestCase):

    def test_lower_beads_up(self):
        for beads in (1, 2, 3, 4):
            self.assertEqual(ask(("start",), ("move", 0, 0, beads)), [[0], [0]])
            self.assertEqual(rod_after(0, (0, beads)), [beads, 0, beads])

    def test_lower_beads_down(self):
        for beads in (1, 2, 3, 4):
            self.assertEqual(ask_last(("start",), ("set", 4), ("move", 0, 1, beads)), [0])
            self.assertEqual(rod_after(0, (0, 4), (1, beads)), [4 - beads, 0, 4 - beads])

    def test_the_upper_bead_down(self):
        self.assertEqual(ask_last(("start",), ("move", 0, 2, 1)), [0])
        self.assertEqual(rod_after(0, (2, 1)), [5, 1, 0])

    def test_the_upper_bead_up(self):
        self.assertEqual(ask_last(("start",), ("set", 5), ("move", 0, 3, 1)), [0])
        self.assertEqual(rod_after(0, (2, 1), (3, 1)), [0, 0, 0])

    def test_upper_and_lower_beads_do_not_hinder_each_other(self):
        self.assertEqual(rod_after(6, (0, 4), (2, 1)), [9, 1, 4])
        self.assertEqual(rod_after(6, (2, 1), (0, 3)), [8, 1, 3])
        self.assertEqual(rod_after(6, (2, 1), (0, 3), (3, 1)), [3, 0, 3])
        self.assertEqual(rod_after(6, (2, 1), (0, 3), (1, 2)), [6, 1, 1])

    def test_bit_by_bit(self):
        self.assertEqual(rod_after(2, (0, 1), (0, 1), (0, 2)), [4, 0, 4])
        self.assertEqual(rod_after(2, (0, 4), (1, 2), (1, 2)), [0, 0, 0])

    def test_each_rod_alone(self):
        for rod in range(12):
            got = ask(("start",), ("move", rod, 2, 1), ("move", rod, 0, 2))
            self.assertEqual(got[1:], [[0], [0]])
            wanted = [(1, 2) if other == rod else (0, 0) for other in range(12)]
            self.assertEqual(beads_after(("start",), ("move", rod, 2, 1), ("move", rod, 0, 2)), wanted)
            self.assertEqual(after(("start",), ("move", rod, 2, 1), ("move", rod, 0, 2)), 7 * 10 ** rod)

    def test_no_carry(self):
        self.assertEqual(after(("start",), ("set", 95), ("move", 0, 3, 1), ("move", 1, 1, 4)), 50)


class Refused(unittest.TestCase):

    def check(self, before, rod, kind, beads):
        """A refusal of its number alone, and every bead where it was."""
        move = ("move", rod, kind, beads)
        self.assertEqual(ask_last(*before, move), [-13])
        self.assertEqual(beads_after(*before, move), beads_after(*before))
        self.assertEqual(after(*before, move), after(*before))

    def test_no_such_rod(self):
        for rod in (12, 13, 24, 256, 2 ** 31, FURTHEST):
            for kind in range(5):
                self.check([("start",)], rod, kind, 1)
                self.check([("start",), ("set", LIMIT - 1)], rod, kind, 1)

    def test_no_such_kind(self):
        for kind in (4, 5, 8, 256, 2 ** 31, FURTHEST):
            for number in (0, 222222222222, LIMIT - 1):
                self.check([("start",), ("set", number)], 0, kind, 1)
                self.check([("start",), ("set", number)], 11, kind, 1)

    def test_no_bead(self):
        for kind in range(6):
            for number in (0, 777777777777, LIMIT - 1):
                self.check([("start",), ("set", number)], 3, kind, 0)

    def test_more_lower_beads_up_than_are_down(self):
        for up in range(5):
            for beads in (5 - up, 6 - up, 9, FURTHEST):
                self.check([("start",), ("set", up)], 0, 0, beads)
                self.check([("start",), ("set", 5 + up)], 0, 0, beads)

    def test_more_lower_beads_down_than_are_up(self):
        for up in range(5):
            for beads in (up + 1, up + 2, 9, FURTHEST):
                self.check([("start",), ("set", up)], 0, 1, beads)
                self.check([("start",), ("set", 5 + up)], 0, 1, beads)

    def test_the_upper_bead_with_more_than_one(self):
        for beads in (2, 3, 4, 5, FURTHEST):
            self.check([("start",)], 0, 2, beads)
            self.check([("start",), ("set", 5)], 0, 3, beads)

    def test_the_upper_bead_that_is_there_already(self):
        for digit in range(5):
            self.check([("start",), ("set", digit)], 0, 3, 1)
            self.check([("start",), ("set", 5 + digit)], 0, 2, 1)

    def test_the_beads_of_another_rod_do_not_count(self):
        self.check([("start",), ("set", 99)], 2, 1, 1)
        self.check([("start",), ("set", 99)], 2, 3, 1)
        self.check([("start",), ("set", 900)], 1, 1, 1)

    def test_every_move_on_every_digit(self):
        for digit in range(10):
            for kind in range(6):
                for beads in range(7):
                    hand = Hand()
                    hand.follow(ask_last(("start",), ("set", digit)))
                    wanted = [0] if hand.can(0, kind, beads) else [-13]
                    got = ask_last(("start",), ("set", digit), ("move", 0, kind, beads))
                    self.assertEqual(got, wanted)

    def test_it_can_be_made_after_a_refusal(self):
        got = ask(("start",), ("move", 0, 0, 5), ("move", 0, 0, 4), ("move", 0, 0, 1), ("move", 0, 1, 4))
        self.assertEqual(got[1:], [[-13], [0], [-13], [0]])

    def test_a_start_brings_the_beads_back(self):
        self.assertEqual(beads_after(("start",), ("move", 5, 2, 1), ("move", 5, 0, 1), ("start",)), NOTHING)


class Between(unittest.TestCase):
    """A bead moved by hand in between."""

    def test_added(self):
        hand = [("start",), ("move", 0, 0, 4)]
        self.assertEqual(ask_last(*hand, ("add", 1)), telling((0, 2, 1), (0, 1, 4)))
        self.assertEqual(ask_last(*hand, ("move", 0, 2, 1), ("add", 1)),
                         telling((0, 3, 1), (0, 1, 4), (1, 0, 1)))
        self.assertEqual(after(*hand, ("move", 0, 2, 1), ("add", 1)), 10)

    def test_taken_away(self):
        hand = [("start",), ("move", 1, 2, 1)]
        self.assertEqual(ask_last(*hand, ("take", 1)), telling((1, 3, 1), (1, 0, 4), (0, 2, 1), (0, 0, 4)))
        self.assertEqual(ask_last(*hand, ("take", 50)), telling((1, 3, 1)))
        self.assertEqual(ask_last(*hand, ("take", 51)), [-33])

    def test_divided(self):
        hand = [("start",), ("set", 2), ("move", 1, 2, 1), ("move", 1, 0, 1)]
        wanted = dividing(8, (1, 3, 1), (1, 1, 1), (0, 2, 1), (0, 1, 1))
        self.assertEqual(ask_last(*hand, ("over", 7)), wanted)
        self.assertEqual(after(*hand, ("over", 7)), 6)

    def test_set_and_multiplied(self):
        hand = [("start",), ("move", 11, 2, 1), ("move", 3, 0, 2)]
        cleared = [(11, 3, 1), (3, 1, 2)]
        self.assertEqual(ask_last(*hand, ("set", 1)), telling(*cleared, (0, 0, 1)))
        self.assertEqual(ask_last(*hand, ("times", 2, 2)), telling(*cleared, (0, 0, 4)))

    def test_room_is_what_the_beads_leave(self):
        hand = [("start",), ("move", 11, 2, 1), ("move", 11, 0, 4)]
        self.assertEqual(ask_last(*hand, ("add", 10 ** 11)), [-75])
        self.assertEqual(ask_last(*hand, ("add", 10 ** 11 - 1))[0], 22)
        self.assertEqual(ask_last(*hand, ("move", 11, 1, 1), ("add", 10 ** 11)), telling((11, 0, 1)))

    def test_a_move_by_hand_is_not_told_later(self):
        got = ask(("start",), ("move", 0, 0, 3), ("add", 0), ("move", 0, 2, 1), ("over", 9), ("take", GREATEST))
        self.assertEqual(got[1:], [[0], [0], [0], [0, 0], [-33]])

    def test_told_moves_can_be_made_by_hand(self):
        told = [(2, 1, 3), (2, 1, 1), (1, 0, 4), (1, 1, 4), (0, 3, 1), (0, 1, 3)]
        moves = [("move", *move) for move in told]
        got = ask(("start",), ("set", 408), *moves, ("value",))
        self.assertEqual(got[2:], [[0]] * 6 + [[0, 0]])


if __name__ == "__main__":
    unittest.main()
