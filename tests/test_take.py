"""Promise 3: take."""

import unittest

from tests.helper import (
    CallTest, MOST, TOP_COUNT, counts, join, learn, length, news, number_at, opened, place, put,
    puts_in, seen, take, takes_out, text,
)

ABCDE = [opened(0, 7), put(0, 0, b"abcde")]


class TakeTest(CallTest):

    def test_at_the_beginning_in_the_middle_at_the_end(self):
        for at, k, whole in ((0, 2, b"cde"), (1, 2, b"ade"), (3, 2, b"abc"), (4, 1, b"abcd"), (0, 5, b"")):
            self.assert_last(ABCDE, take(0, at, k), [len(whole)])
            self.assert_text(ABCDE + [take(0, at, k)], 0, whole)

    def test_no_bytes_change_nothing(self):
        for at in (0, 2, 5):
            self.assert_answers([
                (opened(0, 7), [0]),
                (put(0, 0, b"abcde"), [5]),
                (take(0, at, 0), [5]),
                (seen(0), [0] + counts({7: 5})),
            ])
        self.assert_last([opened(0, 7)], take(0, 0, 0), [0])

    def test_one_change_a_byte_in_the_order_of_the_places(self):
        line = ABCDE + [put(0, 0, b"x"), take(0, 0, 3)]
        expected = takes_out(7, 7, (6, 7)) + takes_out(8, 7, (1, 7)) + takes_out(9, 7, (2, 7))
        self.assert_last(line, news(0, MOST, counts({7: 6})), [3] + expected)
        self.assert_last(line, seen(0), [0] + counts({7: 9}))

    def test_counts_follow_the_greatest_known_of_any_site(self):
        line = [opened(0, 7), put(0, 0, b"a"), learn(0, [puts_in(40, 9, 98)]), take(0, 1, 1)]
        self.assert_last(line, seen(0), [0] + counts({7: 41, 9: 40}))
        self.assert_last(line, news(0, 1, counts({7: 1, 9: 40})), [1] + takes_out(41, 7, (1, 7)))

    def test_bytes_of_another_site(self):
        line = [opened(0, 7), opened(1, 8), put(0, 0, b"abc"), join(1, 0), take(1, 1, 1)]
        self.assert_text(line, 1, b"ac")
        self.assert_text(line, 0, b"abc")
        self.assert_text(line + [join(0, 1)], 0, b"ac")

    def test_what_was_taken_out_is_passed_over(self):
        line = ABCDE + [take(0, 1, 2), take(0, 0, 2)]
        self.assert_text(line, 0, b"e")

    def test_out_of_range(self):
        for at, k in ((-1, 0), (-1, 1), (-1, 3), (0, -1), (3, -1), (0, 6), (5, 1), (6, 0), (6, -1), (1, 5),
                      (2147483647, 2147483647), (-2147483648, 2147483647), (0, 2147483647),
                      (2147483647, -2147483648)):
            self.assert_refused(ABCDE, take(0, at, k), -2)
        self.assert_refused([opened(0, 7)], take(0, 0, 1), -2)
        self.assert_refused([opened(0, 7)], take(0, 1, 0), -2)

    def test_the_range_is_that_of_the_text(self):
        line = ABCDE + [take(0, 0, 2)]
        self.assert_refused(line, take(0, 0, 4), -2)
        self.assert_last(line, take(0, 0, 3), [0])

    def test_more_changes_than_may_be_known(self):
        half = [opened(0, 7), put(0, 0, bytes(MOST // 2 + 1))]
        self.assert_refused(half, take(0, 0, MOST // 2), -1)
        self.assert_last(half, take(0, 0, MOST // 2 - 1), [2])
        full = [opened(0, 7), put(0, 0, bytes(MOST))]
        self.assert_refused(full, take(0, 3, 1), -1)
        self.assert_last(full, take(0, 3, 0), [MOST])

    def test_a_count_of_two_to_the_power_32(self):
        top = [opened(0, 7), learn(0, [puts_in(TOP_COUNT, 9, 97)])]
        self.assert_refused(top, take(0, 0, 1), -1)
        self.assert_last(top, take(0, 0, 0), [1])
        changes = [puts_in(1, 8, 98), puts_in(TOP_COUNT - 1, 9, 97)]
        near = [opened(0, 7), learn(0, changes)]
        self.assert_refused(near, take(0, 0, 2), -1)
        self.assert_answers([
            (near[0], [0]),
            (near[1], [2]),
            (take(0, 0, 1), [1]),
            (seen(0), [0] + counts({7: TOP_COUNT, 8: 1, 9: TOP_COUNT - 1})),
            (take(0, 0, 1), [-1]),
            (text(0, 0, 1), [0, 98]),
        ])

    def test_a_range_comes_before_the_limits(self):
        full = [opened(0, 7), put(0, 0, bytes(MOST))]
        for at, k in ((-1, 1), (0, -1), (0, MOST + 1), (MOST, 1)):
            self.assert_refused(full, take(0, at, k), -2)
        top = [opened(0, 7), learn(0, [puts_in(TOP_COUNT, 9, 97)])]
        for at, k in ((-1, 1), (0, 2), (1, 1)):
            self.assert_refused(top, take(0, at, k), -2)

    def test_what_stays_moves_up(self):
        self.assert_answers([
            (ABCDE[0], [0]),
            (ABCDE[1], [5]),
            (take(0, 1, 2), [3]),
            (length(0), [3]),
            (number_at(0, 1), [0, 4, 7]),
            (place(0, 4, 7), [1]),
            (place(0, 2, 7), [-1]),
        ])


if __name__ == "__main__":
    unittest.main()
