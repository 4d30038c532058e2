"""Promise 7: learn."""

import unittest

from tests.helper import (
    CallTest, MOST, TOP_COUNT, ask, counts, learn, look, news, number_at, opened, place, put,
    puts_in, seen, take, takes_out,
)

# Known here: the bytes (1, 7), (2, 7), (3, 7), and (4, 7), which takes out (2, 7).
KNOWN = [opened(0, 7), put(0, 0, b"abc"), take(0, 1, 1)]
GOOD = puts_in(10, 20, 120)


def changed(change, at, byte):
    return change[:at] + [byte] + change[at + 1:]


class LearnTest(CallTest):

    def test_one_change(self):
        self.assert_answers([
            (opened(0, 7), [0]),
            (learn(0, [puts_in(5, 9, 97)]), [1]),
            (number_at(0, 0), [0, 5, 9]),
            (seen(0), [0] + counts({9: 5})),
            (news(0, MOST), [1] + puts_in(5, 9, 97)),
        ])
        self.assert_text([opened(0, 7), learn(0, [puts_in(5, 9, 97)])], 0, b"a")

    def test_no_changes(self):
        self.assert_last(KNOWN, learn(0, []), [2])
        self.assertEqual(look(KNOWN, 0, [learn(0, [])]), look(KNOWN, 0))
        self.assert_last([opened(0, 7)], learn(0, []), [0])

    def test_behind_a_known_byte_and_behind_nothing(self):
        self.assert_text(KNOWN + [learn(0, [puts_in(5, 9, 120, (1, 7))])], 0, b"axc")
        self.assert_text(KNOWN + [learn(0, [puts_in(5, 9, 120, (2, 7))])], 0, b"axc")
        self.assert_text(KNOWN + [learn(0, [puts_in(5, 9, 120, (3, 7))])], 0, b"acx")
        self.assert_text(KNOWN + [learn(0, [puts_in(5, 9, 120)])], 0, b"xac")

    def test_taking_out(self):
        line = KNOWN + [learn(0, [takes_out(9, 9, (1, 7))])]
        self.assert_text(line, 0, b"c")
        self.assert_last(KNOWN, learn(0, [takes_out(9, 9, (1, 7))]), [1])
        self.assert_last(line, place(0, 1, 7), [-1])

    def test_taking_out_what_is_out_already(self):
        self.assert_last(KNOWN, learn(0, [takes_out(9, 9, (2, 7))]), [2])
        line = KNOWN + [learn(0, [takes_out(9, 9, (2, 7))])]
        self.assert_text(line, 0, b"ac")
        self.assert_last(line, seen(0), [0] + counts({7: 4, 9: 9}))

    def test_the_other_comes_earlier_in_the_same_call(self):
        changes = [puts_in(5, 9, 120), puts_in(6, 9, 121, (5, 9)), takes_out(7, 10, (5, 9))]
        self.assert_last(KNOWN, learn(0, changes), [3])
        self.assert_text(KNOWN + [learn(0, changes)], 0, b"yac")

    def test_the_other_comes_later_in_the_same_call(self):
        first = puts_in(5, 9, 120)
        for later in (puts_in(6, 10, 121, (5, 9)), takes_out(6, 10, (5, 9))):
            self.assert_refused(KNOWN, learn(0, [later, first]), -3)
            self.assertEqual(ask(*KNOWN, learn(0, [first, later]))[-1][0] >= 0, True)

    def test_of_the_copys_own_site(self):
        line = KNOWN + [learn(0, [puts_in(50, 7, 120)])]
        self.assert_text(line, 0, b"xac")
        self.assert_last(line + [put(0, 0, b"y")], number_at(0, 0), [0, 51, 7])

    def test_a_count_less_than_those_of_other_sites(self):
        self.assert_last(KNOWN, learn(0, [puts_in(1, 9, 120), puts_in(2, 9, 121)]), [4])

    def test_the_greatest_number(self):
        line = [opened(0, 7), learn(0, [puts_in(TOP_COUNT, 255, 255)])]
        self.assert_last(line, number_at(0, 0), [0, TOP_COUNT, 255])

    def test_known_already_is_nothing_new(self):
        known = [puts_in(1, 7, 97), puts_in(2, 7, 98, (1, 7)), puts_in(3, 7, 99, (2, 7)), takes_out(4, 7, (2, 7))]
        for changes in (known, known[::-1], [known[0]], [known[3]], [known[1], known[1]]):
            self.assert_last(KNOWN, learn(0, changes), [2])
            self.assertEqual(look(KNOWN, 0, [learn(0, changes)]), look(KNOWN, 0))

    def test_twice_in_one_call_and_twice_over(self):
        self.assert_last(KNOWN, learn(0, [GOOD, GOOD]), [3])
        self.assert_last(KNOWN + [learn(0, [GOOD])], learn(0, [GOOD]), [3])
        self.assertEqual(look(KNOWN, 0, [learn(0, [GOOD, GOOD])]), look(KNOWN, 0, [learn(0, [GOOD])]))

    def test_known_already_among_new_ones(self):
        changes = [puts_in(1, 7, 97), GOOD, takes_out(4, 7, (2, 7))]
        self.assert_last(KNOWN, learn(0, changes), [3])

    def test_n_out_of_range(self):
        for n in (-2147483648, -1, MOST + 1, 2147483647):
            self.assert_refused(KNOWN, learn(0, [], n), -2)
            self.assert_refused([opened(0, 7)], learn(0, [], n), -2)

    def test_a_range_comes_before_the_limit(self):
        full = [opened(0, 7), put(0, 0, bytes(MOST))]
        self.assert_refused(full, learn(0, [], -1), -2)
        self.assert_refused(full, learn(0, [], MOST + 1), -2)


class UnfitTest(CallTest):

    def assert_unfit(self, change):
        """Refused at the first, at a later and at the last change of a call; nothing is kept."""
        for changes in ([change], [GOOD, change], [change, GOOD], [GOOD, change, puts_in(11, 20, 1)]):
            self.assert_refused(KNOWN, learn(0, changes), -3)

    def test_a_kind_that_is_neither(self):
        for kind in (0, 3, 4, 255):
            self.assert_unfit(changed(puts_in(9, 9, 0), 1, kind))
            self.assert_unfit(changed(puts_in(9, 9, 0, (1, 7)), 1, kind))

    def test_bytes_that_are_not_0(self):
        for at in (3, 13, 14, 15):
            for byte in (1, 255):
                self.assert_unfit(changed(puts_in(9, 9, 97, (1, 7)), at, byte))
                self.assert_unfit(changed(takes_out(9, 9, (1, 7)), at, byte))

    def test_a_byte_beside_one_that_takes_out(self):
        for byte in (1, 97, 255):
            self.assert_unfit(changed(takes_out(9, 9, (1, 7)), 2, byte))

    def test_known_but_not_laid_out_as_a_change(self):
        self.assert_unfit(changed(puts_in(1, 7, 97), 3, 1))
        self.assert_unfit(changed(puts_in(1, 7, 97), 15, 1))
        self.assert_unfit(changed(takes_out(4, 7, (2, 7)), 2, 5))

    def test_a_known_number_with_another_change(self):
        self.assert_unfit(puts_in(1, 7, 98))
        self.assert_unfit(puts_in(2, 7, 98))
        self.assert_unfit(puts_in(3, 7, 99, (1, 7)))
        self.assert_unfit(takes_out(3, 7, (2, 7)))
        self.assert_unfit(takes_out(4, 7, (1, 7)))
        self.assert_unfit(puts_in(4, 7, 0, (2, 7)))
        self.assert_unfit(takes_out(4, 7, (3, 7)))

    def test_a_number_of_this_call_with_another_change(self):
        self.assert_refused(KNOWN, learn(0, [GOOD, changed(GOOD, 2, 7)]), -3)

    def test_site_0(self):
        self.assert_unfit(puts_in(9, 0, 97))
        self.assert_unfit(puts_in(9, 0, 97, (1, 7)))
        self.assert_unfit(takes_out(9, 0, (1, 7)))

    def test_count_0(self):
        self.assert_unfit(puts_in(0, 9, 97))
        self.assert_unfit(puts_in(0, 0, 97))
        self.assert_unfit([0] * 16)

    def test_a_count_not_greater_than_all_of_its_site(self):
        line = [opened(0, 7), learn(0, [puts_in(5, 9, 97), puts_in(8, 9, 98)])]
        for count in (1, 4, 6, 7):
            self.assert_refused(line, learn(0, [puts_in(count, 9, 99)]), -3)
            self.assert_refused(line, learn(0, [GOOD, puts_in(count, 9, 99)]), -3)
        self.assert_last(line, learn(0, [puts_in(9, 9, 99)]), [3])

    def test_a_count_not_greater_than_one_of_its_site_that_takes_out(self):
        line = [opened(0, 7), learn(0, [puts_in(5, 9, 97), takes_out(8, 9, (5, 9))])]
        self.assert_refused(line, learn(0, [puts_in(7, 9, 99)]), -3)
        self.assert_last(line, learn(0, [puts_in(9, 9, 99)]), [1])

    def test_a_count_not_greater_than_one_of_its_site_in_this_call(self):
        self.assert_refused(KNOWN, learn(0, [GOOD, puts_in(9, 20, 99)]), -3)
        self.assert_last(KNOWN, learn(0, [puts_in(9, 20, 99), GOOD]), [4])

    def test_a_count_not_greater_than_the_others(self):
        for count in (1, 2, 3):
            self.assert_unfit(puts_in(count, 9, 97, (3, 7)))
            self.assert_unfit(takes_out(count, 9, (3, 7)))
        self.assert_last(KNOWN, learn(0, [puts_in(4, 9, 97, (3, 7))]), [3])
        self.assert_last(KNOWN, learn(0, [takes_out(4, 9, (3, 7))]), [1])

    def test_an_equal_count_with_a_greater_site(self):
        self.assert_unfit(puts_in(3, 255, 97, (3, 7)))
        self.assert_unfit(takes_out(3, 255, (3, 7)))

    def test_taking_out_nothing(self):
        self.assert_unfit(takes_out(9, 9, (0, 0)))

    def test_an_other_that_is_not_known(self):
        for other in ((1, 8), (5, 7), (8, 7), (1, 6), (0, 7), (0, 1), (1, 0), (2, 0), (8, 255)):
            self.assert_unfit(puts_in(9, 9, 97, other))
            self.assert_unfit(takes_out(9, 9, other))

    def test_an_other_that_takes_out(self):
        self.assert_unfit(puts_in(9, 9, 97, (4, 7)))
        self.assert_unfit(takes_out(9, 9, (4, 7)))

    def test_itself_as_the_other(self):
        self.assert_unfit(puts_in(9, 9, 97, (9, 9)))
        self.assert_unfit(takes_out(9, 9, (9, 9)))

    def test_late_in_a_long_call(self):
        many = [puts_in(count, 20, 97) for count in range(1, 301)]
        self.assert_last(KNOWN, learn(0, many), [302])
        self.assert_refused(KNOWN, learn(0, many + [takes_out(400, 9, (301, 20))]), -3)
        self.assert_refused(KNOWN, learn(0, many + [puts_in(300, 20, 98)]), -3)


class TooManyTest(CallTest):

    def setUp(self):
        self.nearly = [opened(0, 7), put(0, 0, bytes(MOST - 2))]
        self.full = [opened(0, 7), put(0, 0, bytes(MOST))]

    def test_more_than_may_be_known(self):
        two = [puts_in(1, 9, 97), puts_in(2, 9, 98)]
        self.assert_last(self.nearly, learn(0, two), [MOST])
        self.assert_refused(self.nearly, learn(0, two + [puts_in(3, 9, 99)]), -1)
        self.assert_refused(self.full, learn(0, [puts_in(1, 9, 97)]), -1)
        self.assert_refused(self.full, learn(0, [takes_out(2, 9, (1, 7))]), -1)

    def test_what_is_known_already_is_not_counted(self):
        self.assert_last(self.full, learn(0, [puts_in(1, 7, 0), puts_in(2, 7, 0, (1, 7))]), [MOST])
        self.assert_last(self.full, learn(0, []), [MOST])
        two = [puts_in(1, 9, 97), puts_in(2, 9, 98)]
        self.assert_last(self.nearly, learn(0, two + two + [puts_in(1, 7, 0)]), [MOST])

    def test_unfit_comes_before_too_many(self):
        three = [puts_in(1, 9, 97), puts_in(2, 9, 98), puts_in(3, 9, 99)]
        for unfit in (puts_in(1, 9, 98), takes_out(4, 9, (0, 0)), puts_in(4, 9, 1, (1, 8)), [0] * 16):
            self.assert_refused(self.nearly, learn(0, three + [unfit]), -3)
            self.assert_last(self.full, learn(0, three + [unfit]), [-3])

    def test_a_count_of_the_greatest_is_no_reason(self):
        line = [opened(0, 7), learn(0, [puts_in(TOP_COUNT, 9, 97)])]
        self.assert_last(line, learn(0, [puts_in(TOP_COUNT, 10, 98), puts_in(1, 11, 99)]), [3])


if __name__ == "__main__":
    unittest.main()
