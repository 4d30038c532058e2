"""Promise 1: open."""

import unittest

from tests.helper import (
    CallTest, MOST, counts, join, learn, length, look, news, number_at, opened, place, put,
    puts_in, seen, take, text,
)


class OpenTest(CallTest):

    def test_a_new_copy_knows_nothing(self):
        self.assert_answers([
            (opened(0, 7), [0]),
            (length(0), [0]),
            (text(0, 0, 0), [0]),
            (seen(0), [0] + counts({})),
            (news(0, MOST), [0]),
            (place(0, 1, 7), [-1]),
        ])

    def test_the_sites_at_the_edges(self):
        for site in (1, 2, 254, 255):
            self.assert_answers([
                (opened(0, site), [0]),
                (put(0, 0, b"a"), [1]),
                (number_at(0, 0), [0, 1, site]),
            ])

    def test_sites_out_of_range_are_refused(self):
        setup = [opened(0, 3), put(0, 0, b"abc"), opened(1, 4), put(1, 0, b"de")]
        for site in (-2147483648, -1, 0, 256, 257, 2147483647):
            self.assert_refused(setup, opened(0, site), -2, (0, 1))
            self.assert_refused(setup, opened(1, site), -2, (0, 1))

    def test_the_site_stays_when_open_is_refused(self):
        self.assert_answers([
            (opened(0, 3), [0]),
            (opened(0, 256), [-2]),
            (put(0, 0, b"a"), [1]),
            (number_at(0, 0), [0, 1, 3]),
        ])

    def test_open_again_knows_nothing(self):
        self.assert_answers([
            (opened(0, 3), [0]),
            (learn(0, [puts_in(50, 9, 65)]), [1]),
            (put(0, 0, b"abc"), [4]),
            (take(0, 1, 1), [3]),
            (opened(0, 5), [0]),
            (length(0), [0]),
            (seen(0), [0] + counts({})),
            (news(0, MOST), [0]),
            (place(0, 50, 9), [-1]),
            (put(0, 0, b"x"), [1]),
            (number_at(0, 0), [0, 1, 5]),
            (text(0, 0, 1), [0, 120]),
        ])

    def test_open_again_leaves_the_other_copy(self):
        setup = [opened(0, 1), opened(1, 2), put(0, 0, b"abc"), join(1, 0), take(1, 1, 1)]
        self.assertEqual(look(setup, 1, [opened(0, 1)]), look(setup, 1))
        self.assertEqual(look(setup, 1, [opened(0, 9), put(0, 0, b"q")]), look(setup, 1))
        self.assert_text(setup + [opened(0, 1)], 1, b"ac")
        self.assert_text(setup + [opened(0, 1)], 0, b"")

    def test_open_again_and_join_brings_all_back(self):
        setup = [opened(0, 1), opened(1, 2), put(0, 0, b"abc"), join(1, 0)]
        again = [opened(0, 1), join(0, 1)]
        self.assertEqual(look(setup, 0, again), look(setup, 0))


if __name__ == "__main__":
    unittest.main()
