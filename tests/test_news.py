"""Promise 6: news."""

import unittest

from tests.helper import (
    ALL_UNSEEN, CallTest, MOST, TOP_COUNT, ask, counts, flat, join, learn, look, news, opened, put,
    puts_in, seen, take, takes_out,
)

TWO = [opened(0, 9), put(0, 0, b"ab"), learn(0, [puts_in(1, 200, 120), puts_in(2, 3, 121, (1, 200))])]
# In the order of their numbers: by the count first, then by the site.
ALL = [puts_in(1, 9, 97), puts_in(1, 200, 120), puts_in(2, 3, 121, (1, 200)), puts_in(2, 9, 98, (1, 9))]


class NewsTest(CallTest):

    def test_all_changes_in_the_order_of_their_numbers(self):
        self.assert_last(TWO, news(0, MOST), [4] + flat(ALL))

    def test_against_what_was_seen(self):
        for known, expected in (
            ({9: 1}, ALL[1:]),
            ({9: 2}, ALL[1:3]),
            ({9: 3, 200: 1}, ALL[2:3]),
            ({200: 1, 3: 2, 9: 2}, []),
            ({200: TOP_COUNT, 3: 1, 9: 1}, ALL[2:]),
            ({0: TOP_COUNT, 255: TOP_COUNT}, ALL),
        ):
            self.assert_last(TWO, news(0, MOST, counts(known)), [len(expected)] + flat(expected))

    def test_against_its_own_seen_there_is_nothing(self):
        own = ask(*TWO, seen(0))[-1][1:]
        self.assert_last(TWO, news(0, 0, own), [0])

    def test_sixteen_bytes_byte_for_byte(self):
        line = [opened(0, 255), learn(0, [puts_in(0x01020304, 17, 250)]), put(0, 1, [1]), take(0, 0, 1)]
        expected = [
            17, 1, 250, 0, 4, 3, 2, 1, 0, 0, 0, 0, 0, 0, 0, 0,
            255, 1, 1, 0, 5, 3, 2, 1, 4, 3, 2, 1, 17, 0, 0, 0,
            255, 2, 0, 0, 6, 3, 2, 1, 4, 3, 2, 1, 17, 0, 0, 0,
        ]
        self.assert_last(line, news(0, 3), [3] + expected)

    def test_the_greatest_counts(self):
        changes = [puts_in(TOP_COUNT - 1, 1, 5), takes_out(TOP_COUNT, 255, (TOP_COUNT - 1, 1))]
        line = [opened(0, 4), learn(0, changes)]
        self.assert_last(line, news(0, 2), [2] + flat(changes))
        self.assert_last(line, news(0, 2, counts({1: TOP_COUNT - 1, 255: TOP_COUNT - 1})), [1] + changes[1])
        self.assert_last(line, news(0, 2, [TOP_COUNT] * 256), [0])

    def test_counts_where_a_byte_runs_over(self):
        tops = (255, 256, 65535, 65536, 16777215, 16777216, 4278190079, 4278190080)
        changes = [puts_in(count, 3, 97) for count in tops]
        changes += [puts_in(TOP_COUNT - 8 + step, 4, 98, (count, 3)) for step, count in enumerate(tops)]
        self.assert_last([opened(0, 4), learn(0, changes)], news(0, MOST), [16] + flat(changes))

    def test_room(self):
        self.assert_last(TWO, news(0, 4), [4] + flat(ALL))
        self.assert_refused(TWO, news(0, 3), -1)
        self.assert_refused(TWO, news(0, 0), -1)
        self.assert_last(TWO, news(0, 1, counts({9: 2, 200: 1})), [1] + ALL[2])
        self.assert_refused(TWO, news(0, 0, counts({9: 2, 200: 1})), -1)
        self.assert_last([opened(0, 1)], news(0, 0), [0])

    def test_room_out_of_range(self):
        for room in (-2147483648, -1, MOST + 1, 2147483647):
            self.assert_refused(TWO, news(0, room), -2)
            self.assert_refused([opened(0, 1)], news(0, room), -2)

    def test_the_greatest_room_is_filled(self):
        line = [opened(0, 1), put(0, 0, bytes(MOST))]
        told = ask(*line, news(0, MOST))[-1]
        self.assertEqual(told[0], MOST)
        self.assertEqual(len(told), 1 + 16 * MOST)
        self.assertEqual(told[-16:], puts_in(MOST, 1, 0, (MOST - 1, 1)))
        self.assert_last(line, news(0, MOST - 1), [-1])

    def test_the_numbers_come_in_order_whatever_was_learned_first(self):
        first = [puts_in(9, 2, 97), puts_in(3, 5, 98), puts_in(3, 4, 99), puts_in(1, 255, 100)]
        line = [opened(0, 4), learn(0, first), put(0, 0, b"z")]
        expected = [first[3], first[2], first[1], first[0], puts_in(10, 4, 122)]
        self.assert_last(line, news(0, MOST), [5] + flat(expected))

    def test_what_one_tells_the_other_learns(self):
        line = [opened(0, 9), opened(1, 4), put(0, 0, b"abcd"), take(0, 1, 2), put(0, 1, b"x")]
        told = ask(*line, news(0, MOST))[-1]
        changes = [told[1 + 16 * step:17 + 16 * step] for step in range(told[0])]
        self.assertEqual(look(line, 1, [learn(1, changes)]), look(line, 0))

    def test_what_was_joined_is_told_on(self):
        line = TWO + [opened(1, 77), join(1, 0)]
        self.assert_last(line, news(1, MOST), [4] + flat(ALL))

    def test_asking_changes_nothing(self):
        self.assertEqual(look(TWO, 0, [news(0, MOST), news(0, 1), news(0, 4, ALL_UNSEEN)]), look(TWO, 0))


if __name__ == "__main__":
    unittest.main()
