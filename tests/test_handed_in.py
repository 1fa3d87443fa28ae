"""What is handed in stays as it was, and nothing is kept between two times."""

import unittest

from beadframedesk.frame import answers
from tests.told import GREATEST, as_list


class NeverChanged(list):
    """A list that can be read, and nothing else."""

    def refuse(self, *given, **named):
        raise AssertionError("what is handed in was changed")

    __setitem__ = __delitem__ = __iadd__ = __imul__ = refuse
    append = extend = insert = pop = remove = clear = sort = reverse = refuse


def many_calls():
    return as_list(("start",), ("set", 987), ("add", 6), ("take", 1000), ("times", 12, 34),
                   ("add", GREATEST), ("start",), ("add", 55), ("take", 6), ("times", GREATEST, 0))


class HandedIn(unittest.TestCase):

    def test_stays_as_it_was(self):
        handed = many_calls()
        answers(handed)
        self.assertEqual(handed, many_calls())

    def test_is_not_changed_for_a_while_either(self):
        self.assertEqual(answers(NeverChanged(many_calls())), answers(many_calls()))

    def test_is_not_given_back(self):
        handed = many_calls()
        got = answers(handed)
        got.clear()
        self.assertEqual(handed, many_calls())


class NothingKept(unittest.TestCase):

    def test_the_same_list_twice(self):
        handed = many_calls()
        self.assertEqual(answers(handed), answers(handed))

    def test_a_frame_is_new_each_time(self):
        answers(as_list(("start",), ("set", 999999999999)))
        self.assertEqual(answers(as_list(("start",), ("add", 1))), [1, 0, 4, 1, 0, 0, 1])

    def test_what_was_given_back_is_not_used_again(self):
        handed = many_calls()
        first = answers(handed)
        kept = list(first)
        first.clear()
        self.assertEqual(answers(handed), kept)
        second = answers(handed)
        answers(as_list(("start",), ("add", 3)))
        self.assertEqual(second, kept)


if __name__ == "__main__":
    unittest.main()
