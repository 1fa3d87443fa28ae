"""What is handed in stays as it was, and nothing is kept between two times."""

import unittest

from beadframedesk.frame import answers
from tests.told import GREATEST, as_list


class NeverChanged(list):
    """A list that can be read, and nothing else."""

    def refuse(self, *given, **named):
        raise AssertionError("what is handed in was changed")

    __setitem__ = __delitem__ = __iadd__ = __imul__ = refuse
    append = extend = insert = pop = remove = clear = sort = reverse = refuse


def many_calls():
    return as_list(("start",), ("set", 987), ("add", 6), ("take", 1000), ("times", 12, 34),
                   ("add", GREATEST), ("over", 7), ("move", 11, 2, 1), ("move", 12, 0, 1), ("value",),
                   ("rod", 11), ("rod", 12), ("over", 0), ("start",), ("add", 55), ("take", 6),
                   ("move", 0, 0, 2), ("move", 0, 1, 4), ("times", GREATEST, 0), ("value",))


class HandedIn(unittest.TestCase):

    def test_stays_as_it_was(self):
        handed = many_calls()
        answers(handed)
        self.assertEqual(handed, many_calls())

    def test_is_not_changed_for_a_while_either(self):
        self.assertEqual(answers(NeverChanged(many_calls())), answers(many_calls()))

    def test_is_not_given_back(self):
        handed = many_calls()
        got = answers(handed)
        got.clear()
        self.assertEqual(handed, many_calls())


class NothingKept(unittest.TestCase):

    def test_the_same_list_twice(self):
        handed = many_calls()
        self.assertEqual(answers(handed), answers(handed))

    def test_a_frame_is_new_each_time(self):
        answers(as_list(("start",), ("set", 999999999999)))
        self.assertEqual(answers(as_list(("start",), ("add", 1))), [1, 0, 4, 1, 0, 0, 1])

    def test_beads_moved_by_hand_are_not_kept(self):
        answers(as_list(("start",), ("move", 4, 2, 1), ("move", 4, 0, 3)))
        self.assertEqual(answers(as_list(("start",), ("value",), ("rod", 4))), [1, 0, 2, 0, 0, 3, 0, 0, 0])

    def test_a_list_that_is_refused_much_leaves_nothing(self):
        answers(as_list(("start",), ("move", 0, 0, 4), ("over", 0), ("move", 0, 0, 1), ("rod", 12)))
        self.assertEqual(answers(as_list(("start",), ("over", 1))), [1, 0, 2, 0, 0])

    def test_what_was_given_back_is_not_used_again(self):
        handed = many_calls()
        first = answers(handed)
        kept = list(first)
        first.clear()
        self.assertEqual(answers(handed), kept)
        second = answers(handed)
        answers(as_list(("start",), ("add", 3)))
        self.assertEqual(second, kept)


if __name__ == "__main__":
    unittest.main()
