"""What the interface says of the call itself."""

import contextlib
import inspect
import io
import unittest

from tests.helper import WIDE, Draws, plain_stream
from turnpack.packer import write


class Watched(list):
    """A list that minds being changed, if only for a while."""

    def refuse(self, *rest):
        raise AssertionError("what was handed in is changed")

    append = extend = insert = pop = remove = clear = sort = reverse = refuse
    __setitem__ = __delitem__ = __iadd__ = __imul__ = refuse


class Interface(unittest.TestCase):
    def test_the_parameters(self):
        self.assertEqual(list(inspect.signature(write).parameters), ["level", "most", "data"])
        self.assertEqual(write(level=1, most=WIDE, data=[1, 2]), write(1, WIDE, [1, 2]))

    def test_what_is_given_back_is_a_list_of_whole_numbers(self):
        draws = Draws(61)
        for data in ([], [0], [97] * 300, draws.some(2000, 256)):
            for answer in (write(1, WIDE, data), write(1, 3, data), write(0, 3, data)):
                self.assertIs(type(answer), list)
                self.assertTrue(all(type(number) is int for number in answer))
                self.assertTrue(all(0 <= number <= 255 for number in answer[1:]))

    def test_what_is_handed_in_is_not_changed(self):
        draws = Draws(62)
        for kept in ([], [5], [5] * 700, draws.some(3000, 3), list(range(256))):
            data = Watched(kept)
            for level, most in ((1, WIDE), (9, WIDE), (1, 0), (0, 0), (1, -1)):
                write(level, most, data)
                self.assertEqual(list(data), kept)

    def test_what_is_given_back_is_not_what_was_handed_in(self):
        data = [1, 2, 3]
        write(1, WIDE, data).append(5)
        self.assertEqual(data, [1, 2, 3])

    def test_nothing_is_kept(self):
        draws = Draws(63)
        inputs = [draws.some(draws.below(500), 1 + draws.below(256)) for _ in range(30)]
        first = [write(1 + place % 9, WIDE, data) for place, data in enumerate(inputs)]
        for data in inputs:
            write(3, 5, data)
            write(0, 5, data)
        again = [write(1 + place % 9, WIDE, data) for place, data in enumerate(inputs)]
        self.assertEqual(first, again)
        backwards = [write(1 + place % 9, WIDE, inputs[place]) for place in range(29, -1, -1)]
        self.assertEqual(first, backwards[::-1])

    def test_an_answer_that_is_changed_changes_no_later_one(self):
        for data in ([], [1], [1, 2, 3]):
            for level, most in ((1, WIDE), (1, 0), (0, 0)):
                answer = write(level, most, data)
                kept = list(answer)
                answer[0] = 99
                answer.append(1)
                self.assertEqual(write(level, most, data), kept)

    def test_nothing_is_printed(self):
        out = io.StringIO()
        with contextlib.redirect_stdout(out), contextlib.redirect_stderr(out):
            write(1, WIDE, [1, 2, 3])
            write(1, 0, [1, 2, 3])
            write(0, 0, [1, 2, 3])
        self.assertEqual(out.getvalue(), "")

    def test_the_level_is_told_and_else_all_is_the_same_where_one_block_is_enough(self):
        data = Draws(64).some(1000, 7)
        streams = [write(level, WIDE, data) for level in range(1, 10)]
        self.assertEqual(len({tuple(stream[:4] + stream[5:]) for stream in streams}), 1)
        self.assertEqual(streams[8][1:], plain_stream(9, data))


if __name__ == "__main__":
    unittest.main()
