"""Promise 5: seen."""

import unittest

from tests.helper import (
    CallTest, TOP_COUNT, ask, counts, join, learn, opened, put, puts_in, seen, take, takes_out,
)


class SeenTest(CallTest):

    def test_a_new_copy(self):
        self.assert_last([opened(0, 1)], seen(0), [0] + [0] * 256)

    def test_sites_at_the_edges(self):
        line = [opened(0, 1), opened(1, 255), put(0, 0, b"abc"), put(1, 0, b"de"), join(0, 1)]
        told = ask(*line, seen(0), seen(1))
        self.assertEqual(told[-2], [0] + counts({1: 3, 255: 2}))
        self.assertEqual(told[-1], [0] + counts({255: 2}))
        self.assertEqual(len(told[-2]), 257)
        self.assertEqual(told[-2][1], 0)

    def test_every_site(self):
        line = [opened(0, 9), learn(0, [puts_in(1000 - site, site, 0) for site in range(1, 256)])]
        self.assert_last(line, seen(0), [0, 0] + [1000 - site for site in range(1, 256)])

    def test_changes_that_take_out_count_too(self):
        line = [opened(0, 4), put(0, 0, b"abc"), take(0, 0, 2)]
        self.assert_last(line, seen(0), [0] + counts({4: 5}))
        learned = learn(0, [puts_in(3, 9, 97), takes_out(8, 5, (3, 9))])
        self.assert_last([opened(0, 4), learned], seen(0), [0] + counts({5: 8, 9: 3}))

    def test_the_greatest_count(self):
        line = [opened(0, 4), learn(0, [puts_in(2, 200, 97), puts_in(TOP_COUNT, 200, 98)])]
        self.assert_last(line, seen(0), [0] + counts({200: TOP_COUNT}))

    def test_join_keeps_the_greater_of_both(self):
        line = [
            opened(0, 1), opened(1, 2), put(0, 0, b"abc"), join(1, 0), put(0, 0, b"d"), put(1, 0, b"efg"),
        ]
        self.assert_last(line + [join(0, 1)], seen(0), [0] + counts({1: 4, 2: 6}))
        self.assert_last(line + [join(1, 0)], seen(1), [0] + counts({1: 4, 2: 6}))

    def test_an_older_change_of_a_site_by_join(self):
        # The other copy holds a lesser count of a site of which a greater one is known here.
        line = [
            opened(0, 1), opened(1, 2), learn(0, [puts_in(9, 5, 97)]), learn(1, [puts_in(4, 5, 98)]), join(0, 1),
        ]
        self.assert_last(line, seen(0), [0] + counts({5: 9}))
        self.assert_text(line, 0, b"ab")

    def test_asking_changes_nothing(self):
        line = [opened(0, 4), put(0, 0, b"abc"), seen(0), seen(0)]
        self.assert_last(line, seen(0), [0] + counts({4: 3}))


if __name__ == "__main__":
    unittest.main()
