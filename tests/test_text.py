"""Promise 4: text, length, id and place."""

import unittest

from tests.helper import (
    CallTest, TOP_COUNT, ask, join, learn, length, number_at, opened, place, put, puts_in, take,
    text,
)

ABCDE = [opened(0, 7), put(0, 0, b"abcde")]


class TextTest(CallTest):

    def test_each_stretch(self):
        whole = b"abcde"
        for start in range(6):
            for k in range(6 - start):
                self.assert_last(ABCDE, text(0, start, k), [0] + list(whole[start:start + k]))

    def test_out_of_range(self):
        for start, k in ((-1, 0), (-1, 2), (0, -1), (3, -1), (0, 6), (5, 1), (6, 0), (6, -1), (2, 4),
                         (-2147483648, 2147483647), (2147483647, -2147483648), (2147483647, 2147483647)):
            self.assert_refused(ABCDE, text(0, start, k), -2)
        self.assert_refused([opened(0, 7)], text(0, 0, 1), -2)

    def test_without_what_was_taken_out(self):
        line = ABCDE + [take(0, 1, 3)]
        self.assert_last(line, text(0, 0, 2), [0, 97, 101])
        self.assert_refused(line, text(0, 0, 3), -2)

    def test_asking_changes_nothing(self):
        asking = [text(0, 1, 2), length(0), number_at(0, 0), place(0, 1, 7)]
        self.assert_text(ABCDE + asking, 0, b"abcde")
        self.assert_last(ABCDE + asking + [put(0, 0, b"x")], number_at(0, 0), [0, 6, 7])


class LengthTest(CallTest):

    def test_length(self):
        self.assert_answers([
            (opened(0, 7), [0]),
            (length(0), [0]),
            (put(0, 0, b"abc"), [3]),
            (length(0), [3]),
            (take(0, 0, 2), [1]),
            (length(0), [1]),
            (opened(1, 7), [0]),
            (length(1), [0]),
            (join(1, 0), [1]),
            (length(1), [1]),
        ])


class IdTest(CallTest):

    def test_the_number_of_each_byte(self):
        line = [opened(0, 7), opened(1, 255), put(0, 0, b"ab"), join(1, 0), put(1, 1, b"x"), join(0, 1)]
        for copy in (0, 1):
            self.assert_last(line, number_at(copy, 0), [0, 1, 7])
            self.assert_last(line, number_at(copy, 1), [0, 3, 255])
            self.assert_last(line, number_at(copy, 2), [0, 2, 7])

    def test_out_of_range(self):
        for at in (-2147483648, -2, -1, 5, 6, 2147483647):
            self.assert_refused(ABCDE, number_at(0, at), -2)
        for at in (-1, 0, 1):
            self.assert_refused([opened(0, 7)], number_at(0, at), -2)
        self.assert_refused(ABCDE + [take(0, 0, 1)], number_at(0, 4), -2)


class PlaceTest(CallTest):

    def test_id_and_place_are_each_others_reverse(self):
        line = [
            opened(0, 7), opened(1, 9), put(0, 0, b"abcdef"), join(1, 0), take(0, 2, 2), put(1, 3, b"xyz"),
            take(1, 0, 1), put(0, 1, b"q"), join(0, 1), join(1, 0),
        ]
        for copy in (0, 1):
            n = ask(*line, length(copy))[-1][0]
            self.assertEqual(n, 7)
            numbers = ask(*line, *[number_at(copy, at) for at in range(n)])[-n:]
            self.assertEqual(len({tuple(told) for told in numbers}), n)
            for at, told in enumerate(numbers):
                self.assert_last(line, place(copy, told[1], told[2]), [at])

    def test_a_number_that_is_not_known(self):
        for count, site in ((0, 0), (0, 7), (6, 7), (1, 8), (1, 6), (1, 0), (TOP_COUNT, 7)):
            self.assert_refused(ABCDE, place(0, count, site), -1)

    def test_a_site_beyond_all_sites(self):
        for count, site in ((1, 256 + 7), (0, 256 + 7), (0, 512 + 7), (1, 256), (1, TOP_COUNT),
                            (TOP_COUNT, TOP_COUNT), (0, TOP_COUNT)):
            self.assert_refused(ABCDE, place(0, count, site), -1)

    def test_a_byte_that_was_taken_out(self):
        line = ABCDE + [take(0, 1, 1)]
        self.assert_last(line, place(0, 2, 7), [-1])
        self.assert_last(line, place(0, 3, 7), [1])

    def test_a_change_that_takes_out(self):
        line = ABCDE + [take(0, 1, 1)]
        self.assert_last(line, place(0, 6, 7), [-1])

    def test_a_byte_that_only_the_other_copy_knows(self):
        line = ABCDE + [opened(1, 8), put(1, 0, b"x")]
        self.assert_last(line, place(0, 1, 8), [-1])
        self.assert_last(line, place(1, 1, 7), [-1])
        self.assert_last(line, place(1, 1, 8), [0])

    def test_the_greatest_number(self):
        line = [opened(0, 7), learn(0, [puts_in(TOP_COUNT, 255, 97)])]
        self.assert_last(line, place(0, TOP_COUNT, 255), [0])
        self.assert_last(line, number_at(0, 0), [0, TOP_COUNT, 255])


if __name__ == "__main__":
    unittest.main()
