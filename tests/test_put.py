"""Promise 2: put."""

import unittest

from tests.helper import (
    CallTest, MOST, TOP_COUNT, counts, join, learn, length, news, number_at, opened, place, put,
    puts_in, seen, take, text,
)

ABC = [opened(0, 7), put(0, 0, b"abc")]


class PutTest(CallTest):

    def test_at_the_beginning_in_the_middle_at_the_end(self):
        for at, whole in ((0, b"xyabc"), (1, b"axybc"), (2, b"abxyc"), (3, b"abcxy")):
            self.assert_last(ABC, put(0, at, b"xy"), [5])
            self.assert_text(ABC + [put(0, at, b"xy")], 0, whole)

    def test_into_an_empty_text(self):
        self.assert_text(ABC, 0, b"abc")
        self.assert_last([opened(0, 7)], put(0, 0, b"abc"), [3])

    def test_every_byte_value_stays_as_it_is(self):
        self.assert_text([opened(0, 1), put(0, 0, bytes(range(256)))], 0, bytes(range(256)))

    def test_no_bytes_change_nothing(self):
        for at in (0, 1, 3):
            self.assert_answers([
                (opened(0, 7), [0]),
                (put(0, 0, b"abc"), [3]),
                (put(0, at, b""), [3]),
                (seen(0), [0] + counts({7: 3})),
                (put(0, 0, b"d"), [4]),
                (number_at(0, 0), [0, 4, 7]),
            ])

    def test_each_byte_hangs_on_the_one_before(self):
        told = [(7, 1, 97, 1, (0, 0)), (7, 1, 98, 2, (1, 7)), (7, 1, 99, 3, (2, 7))]
        expected = [puts_in(count, site, byte, other) for site, kind, byte, count, other in told]
        self.assert_last(ABC, news(0, MOST), [3] + sum(expected, []))

    def test_the_first_byte_hangs_on_the_byte_ahead(self):
        for at, other in ((0, (0, 0)), (1, (1, 7)), (2, (2, 7)), (3, (3, 7))):
            known = counts({7: 3})
            expected = puts_in(4, 7, 120, other) + puts_in(5, 7, 121, (4, 7))
            self.assert_last(ABC + [put(0, at, b"xy")], news(0, MOST, known), [2] + expected)

    def test_places_count_only_bytes_of_the_text(self):
        line = ABC + [take(0, 0, 1), put(0, 1, b"x")]
        self.assert_text(line, 0, b"bxc")
        self.assert_last(line, news(0, 1, counts({7: 4})), [1] + puts_in(5, 7, 120, (2, 7)))

    def test_behind_a_byte_with_one_taken_out_after_it(self):
        line = ABC + [take(0, 1, 1), put(0, 1, b"x")]
        self.assert_text(line, 0, b"axc")

    def test_counts_follow_the_greatest_known_of_any_site(self):
        line = [opened(0, 7), put(0, 0, b"a"), learn(0, [puts_in(40, 9, 98)])]
        self.assert_answers(
            [(call, answer) for call, answer in zip(line, ([0], [1], [2]))] + [
                (put(0, 0, b"xy"), [4]),
                (number_at(0, 0), [0, 41, 7]),
                (number_at(0, 1), [0, 42, 7]),
                (seen(0), [0] + counts({7: 42, 9: 40})),
            ])

    def test_counts_follow_a_change_that_takes_out(self):
        line = ABC + [take(0, 0, 2), put(0, 1, b"x")]
        self.assert_last(line, number_at(0, 1), [0, 6, 7])

    def test_at_out_of_range(self):
        for at in (-2147483648, -1, 4, 5, 2147483647):
            self.assert_refused(ABC, put(0, at, b"x"), -2)
            self.assert_refused(ABC, put(0, at, b""), -2)
        for at in (-1, 1):
            self.assert_refused([opened(0, 7)], put(0, at, b"x"), -2)

    def test_at_counts_from_the_text_and_not_from_all_bytes(self):
        line = ABC + [take(0, 0, 2)]
        self.assert_refused(line, put(0, 2, b"x"), -2)
        self.assert_last(line, put(0, 1, b"x"), [2])

    def test_k_out_of_range(self):
        for k in (-2147483648, -1, MOST + 1, 2147483647):
            self.assert_refused(ABC, put(0, 0, b"", k), -2)
            self.assert_refused([opened(0, 7)], put(0, 0, b"", k), -2)

    def test_the_greatest_k(self):
        data = bytes(step % 251 for step in range(MOST))
        line = [opened(0, 7), put(0, 0, data)]
        self.assert_answers([
            (line[0], [0]),
            (line[1], [MOST]),
            (length(0), [MOST]),
            (text(0, 0, MOST), [0] + list(data)),
            (number_at(0, MOST - 1), [0, MOST, 7]),
        ])

    def test_more_changes_than_may_be_known(self):
        full = [opened(0, 7), put(0, 0, bytes(MOST))]
        self.assert_refused(full, put(0, 0, b"x"), -1)
        self.assert_refused(full, put(0, MOST, b"x"), -1)
        self.assert_last(full, put(0, MOST, b""), [MOST])
        nearly = [opened(0, 7), put(0, 0, bytes(MOST - 2))]
        self.assert_last(nearly, put(0, 5, b"xy"), [MOST])
        self.assert_refused(nearly, put(0, 5, b"xyz"), -1)
        self.assert_refused([opened(0, 7), put(0, 0, b"x")], put(0, 0, bytes(MOST)), -1)

    def test_bytes_taken_out_stay_known(self):
        line = [opened(0, 7), put(0, 0, bytes(MOST // 2)), take(0, 0, MOST // 2)]
        self.assert_last(line, length(0), [0])
        self.assert_refused(line, put(0, 0, b"x"), -1)

    def test_a_count_of_two_to_the_power_32(self):
        top = [opened(0, 7), learn(0, [puts_in(TOP_COUNT, 9, 97)])]
        self.assert_refused(top, put(0, 0, b"x"), -1)
        self.assert_last(top, put(0, 1, b""), [1])
        near = [opened(0, 7), learn(0, [puts_in(TOP_COUNT - 2, 9, 97)])]
        self.assert_refused(near, put(0, 1, b"xyz"), -1)
        self.assert_answers([
            (near[0], [0]),
            (near[1], [1]),
            (put(0, 1, b"xy"), [3]),
            (number_at(0, 2), [0, TOP_COUNT, 7]),
            (place(0, TOP_COUNT, 7), [2]),
            (put(0, 0, b"z"), [-1]),
            (length(0), [3]),
        ])

    def test_a_range_comes_before_the_limits(self):
        full = [opened(0, 7), put(0, 0, bytes(MOST))]
        for call in (put(0, -1, b"x"), put(0, MOST + 1, b"x"), put(0, 0, b"", MOST + 1), put(0, 0, b"", -1)):
            self.assert_refused(full, call, -2)
        top = [opened(0, 7), learn(0, [puts_in(TOP_COUNT, 9, 97)])]
        for call in (put(0, -1, b"x"), put(0, 2, b"x"), put(0, 0, b"", MOST + 1)):
            self.assert_refused(top, call, -2)

    def test_the_other_copy_stays(self):
        line = [opened(0, 7), opened(1, 8), put(0, 0, b"abc"), put(1, 0, b"x")]
        self.assert_text(line, 0, b"abc")
        self.assert_text(line, 1, b"x")
        self.assert_text(line + [join(0, 1), put(0, 0, b"q")], 1, b"x")


if __name__ == "__main__":
    unittest.main()
