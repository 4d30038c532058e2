"""Promise 8: join."""

import unittest

from tests.helper import (
    CallTest, MOST, ask, counts, join, learn, length, look, number_at, opened, put, puts_in, seen,
    take, takes_out,
)

APART = [
    opened(0, 1), opened(1, 2), put(0, 0, b"shared"), join(1, 0), take(0, 0, 1), put(0, 0, b"S"),
    put(1, 6, b"!"), take(1, 1, 2),
]


class JoinTest(CallTest):

    def test_all_that_the_other_knows(self):
        line = [opened(0, 1), opened(1, 2), put(0, 0, b"abc"), put(1, 0, b"de")]
        self.assert_last(line, join(0, 1), [5])
        self.assert_last(line, join(1, 0), [5])
        self.assert_last(line + [join(0, 1)], seen(0), [0] + counts({1: 3, 2: 2}))

    def test_both_ways_they_show_the_same(self):
        there = APART + [join(0, 1), join(1, 0)]
        back = APART + [join(1, 0), join(0, 1)]
        for line in (there, back):
            self.assertEqual(look(line, 0), look(line, 1))
            self.assert_text(line, 0, b"Sred!")
        self.assertEqual(look(there, 0), look(back, 0))

    def test_the_other_stays_as_it_was(self):
        self.assertEqual(look(APART, 1, [join(0, 1)]), look(APART, 1))
        self.assertEqual(look(APART, 0, [join(1, 0)]), look(APART, 0))
        later = [join(0, 1), put(0, 0, b"x"), take(0, 1, 2)]
        self.assertEqual(look(APART, 1, later), look(APART, 1))

    def test_twice_over(self):
        self.assertEqual(look(APART, 0, [join(0, 1), join(0, 1)]), look(APART, 0, [join(0, 1)]))
        self.assertEqual(ask(*APART, join(0, 1), join(0, 1))[-2:], [[5], [5]])

    def test_with_the_copy_itself(self):
        for copy in (0, 1):
            n = ask(*APART, length(copy))[-1]
            self.assert_last(APART, join(copy, copy), n)
            self.assertEqual(look(APART, copy, [join(copy, copy)]), look(APART, copy))
        self.assert_last([opened(0, 1)], join(0, 0), [0])

    def test_with_a_copy_that_knows_nothing(self):
        line = APART + [opened(1, 9)]
        self.assertEqual(look(line, 0, [join(0, 1)]), look(APART, 0))
        self.assertEqual(look(line, 1, [join(1, 0)]), look(APART, 0))

    def test_counts_go_on_from_the_greatest(self):
        line = APART + [join(0, 1), put(0, 0, b"x")]
        self.assert_last(line, number_at(0, 0), [0, 10, 1])

    def test_the_site_stays(self):
        line = [opened(0, 1), opened(1, 2), put(1, 0, b"abc"), join(0, 1), put(0, 0, b"x")]
        self.assert_last(line, number_at(0, 0), [0, 4, 1])

    def test_both_took_out_the_same_byte(self):
        line = [opened(0, 1), opened(1, 2), put(0, 0, b"abc"), join(1, 0), take(0, 1, 1), take(1, 1, 2)]
        self.assert_text(line + [join(0, 1)], 0, b"a")
        self.assert_text(line + [join(1, 0)], 1, b"a")

    def test_a_byte_put_in_behind_one_that_was_taken_out(self):
        line = [opened(0, 1), opened(1, 2), put(0, 0, b"abc"), join(1, 0), take(0, 1, 1), put(1, 2, b"x")]
        self.assert_text(line + [join(0, 1)], 0, b"axc")
        self.assert_text(line + [join(1, 0)], 1, b"axc")

    def test_older_changes_of_a_site_may_still_be_joined(self):
        line = [opened(0, 1), opened(1, 2), learn(0, [puts_in(9, 5, 97)]), learn(1, [puts_in(4, 5, 98)])]
        self.assert_last(line, join(0, 1), [2])
        self.assert_last(line, join(1, 0), [2])


class ConflictTest(CallTest):

    def test_one_number_for_two_different_changes(self):
        both = [opened(0, 5), opened(1, 5)]
        for here, there in (
            ([put(0, 0, b"a")], [put(1, 0, b"b")]),
            ([put(0, 0, b"ab"), take(0, 0, 1)], [put(1, 0, b"ab"), take(1, 1, 1)]),
            ([put(0, 0, b"ab"), put(0, 1, b"c")], [put(1, 0, b"ab"), put(1, 2, b"c")]),
            ([put(0, 0, b"ab"), put(0, 1, [0])], [put(1, 0, b"ab"), take(1, 0, 1)]),
            ([put(0, 0, b"abc")], [put(1, 0, b"abd")]),
        ):
            line = both + here + there
            self.assert_refused(line, join(0, 1), -3, (0, 1))
            self.assert_refused(line, join(1, 0), -3, (0, 1))

    def test_nothing_is_kept_of_the_changes_before_the_conflict(self):
        line = [opened(0, 5), opened(1, 5), learn(1, [puts_in(1, 2, 97)]), put(0, 0, b"xyz"), put(1, 0, b"pq")]
        self.assert_refused(line, join(0, 1), -3, (0, 1))
        self.assert_refused(line, join(1, 0), -3, (0, 1))

    def test_the_same_change_on_both_is_no_conflict(self):
        line = [opened(0, 5), opened(1, 5), put(0, 0, b"abc"), put(1, 0, b"ab"), take(0, 0, 1)]
        self.assert_last(line, join(1, 0), [2])
        self.assert_last(line, join(0, 1), [2])


class TooManyTest(CallTest):

    def test_more_than_may_be_known(self):
        line = [opened(0, 1), opened(1, 2), put(0, 0, bytes(MOST - 1))]
        self.assert_last(line + [put(1, 0, b"a")], join(0, 1), [MOST])
        self.assert_last(line + [put(1, 0, b"a")], join(1, 0), [MOST])
        self.assert_refused(line + [put(1, 0, b"ab")], join(0, 1), -1, (0, 1))
        self.assert_refused(line + [put(1, 0, b"ab")], join(1, 0), -1, (0, 1))

    def test_what_both_know_is_counted_once(self):
        line = [opened(0, 1), opened(1, 2), put(0, 0, bytes(MOST)), join(1, 0)]
        self.assertEqual(ask(*line, join(1, 0), join(0, 1), join(0, 0))[-4:], [[MOST]] * 4)

    def test_changes_that_take_out_count_too(self):
        line = [opened(0, 1), opened(1, 2), put(0, 0, bytes(MOST // 2)), join(1, 0), take(0, 0, MOST // 2)]
        self.assert_last(line, join(1, 0), [0])
        self.assert_refused(line + [take(1, 0, 1)], join(1, 0), -1, (0, 1))

    def test_a_conflict_comes_before_too_many(self):
        # The conflict is at the first, at a middle and at the last number of the copy that is full.
        for count, here in ((1, [put(1, 0, b"b")]), (9000, []), (MOST, [])):
            late = [] if here else [learn(1, [puts_in(count, 1, 98)])]
            line = [opened(0, 1), opened(1, 1), put(0, 0, bytes(MOST))] + here + late
            line += [learn(1, [puts_in(1, 2, 97)])]
            self.assert_refused(line, join(0, 1), -3, (0, 1))
            self.assert_refused(line, join(1, 0), -3, (0, 1))

    def test_a_conflict_behind_too_many_numbers(self):
        # In the order of numbers the fresh ones come first, and are too many before the conflict.
        line = [opened(0, 1), opened(1, 3), put(0, 0, bytes(MOST))]
        line += [learn(1, [puts_in(1, 2, 97), puts_in(2, 2, 97), puts_in(MOST, 1, 98)])]
        line += [learn(1, [takes_out(MOST + 1, 2, (MOST, 1))])]
        self.assert_refused(line, join(0, 1), -3, (0, 1))
        self.assert_refused(line, join(1, 0), -3, (0, 1))


if __name__ == "__main__":
    unittest.main()
