"""The order of all bytes, as the document's words tell it."""

import itertools
import unittest

from tests.helper import (
    CallTest, MOST, ask, join, learn, length, look, news, number_at, opened, place, put, puts_in,
    take, takes_out, text,
)


class OrderTest(CallTest):

    def assert_every_order(self, changes, whole):
        """The same text, whichever is learned first; each change is of a site of its own."""
        for row in itertools.permutations(changes):
            line = [opened(0, 99)]
            # Each goes to a call of its own; those that must wait for another come again.
            for turn in range(len(changes)):
                line += [learn(0, [change]) for change in row]
            self.assert_text(line, 0, whole)

    def test_behind_nothing_the_greater_count_first(self):
        line = [opened(0, 1), learn(0, [puts_in(2, 9, 98), puts_in(3, 4, 99), puts_in(1, 7, 97)])]
        self.assert_text(line, 0, b"cba")

    def test_of_equal_counts_the_greater_site_first(self):
        line = [opened(0, 1), learn(0, [puts_in(5, 9, 98), puts_in(5, 255, 99), puts_in(5, 1, 97)])]
        self.assert_text(line, 0, b"cba")

    def test_the_count_counts_more_than_the_site(self):
        line = [opened(0, 1), learn(0, [puts_in(5, 255, 97), puts_in(6, 1, 98)])]
        self.assert_text(line, 0, b"ba")
        line = [opened(0, 1), learn(0, [puts_in(255, 255, 97), puts_in(256, 1, 98)])]
        self.assert_text(line, 0, b"ba")

    def test_behind_one_byte_whichever_was_learned_first(self):
        changes = [puts_in(2, 3, 97, (1, 1)), puts_in(2, 4, 98, (1, 1)), puts_in(3, 2, 99, (1, 1))]
        self.assert_every_order([puts_in(1, 1, 45)] + changes, b"-cba")

    def test_behind_nothing_whichever_was_learned_first(self):
        self.assert_every_order([puts_in(1, 3, 97), puts_in(1, 4, 98), puts_in(2, 2, 99)], b"cba")

    def test_what_hangs_on_a_byte_comes_before_the_next(self):
        changes = [
            puts_in(1, 1, 97), puts_in(5, 2, 98, (1, 1)), puts_in(2, 3, 99),
            puts_in(9, 4, 100, (2, 3)), puts_in(9, 5, 101, (1, 1)),
        ]
        self.assert_every_order(changes, b"cdaeb")

    def test_a_late_byte_passes_over_greater_ones_and_all_that_hangs_on_them(self):
        setup = [opened(0, 5), put(0, 0, b"a"), put(0, 1, b"b"), put(0, 1, b"c"), put(0, 2, b"d")]
        self.assert_text(setup, 0, b"acdb")
        # Behind (1, 5) stand (3, 5) with (4, 5) on it, then (2, 5).
        self.assert_text(setup + [learn(0, [puts_in(2, 4, 120, (1, 5))])], 0, b"acdbx")
        self.assert_text(setup + [learn(0, [puts_in(2, 6, 120, (1, 5))])], 0, b"acdxb")
        self.assert_text(setup + [learn(0, [puts_in(3, 4, 120, (1, 5))])], 0, b"acdxb")
        self.assert_text(setup + [learn(0, [puts_in(3, 6, 120, (1, 5))])], 0, b"axcdb")
        self.assert_text(setup + [learn(0, [puts_in(1, 4, 120)])], 0, b"acdbx")
        self.assert_text(setup + [learn(0, [puts_in(1, 6, 120)])], 0, b"xacdb")

    def test_behind_a_byte_that_was_taken_out(self):
        changes = [
            puts_in(1, 1, 97), puts_in(2, 5, 98, (1, 1)), takes_out(3, 4, (1, 1)),
            puts_in(2, 6, 99, (1, 1)), puts_in(9, 3, 100, (1, 1)),
        ]
        self.assert_every_order(changes, b"dcb")

    def test_bytes_that_were_taken_out_still_part_the_others(self):
        # (3, 3) and (2, 2) hang on (1, 1); (3, 3) goes, and what hangs on it stays ahead of (2, 2).
        changes = [
            puts_in(1, 1, 97), puts_in(2, 2, 98, (1, 1)), puts_in(3, 3, 99, (1, 1)),
            puts_in(4, 4, 100, (3, 3)), takes_out(5, 5, (3, 3)),
        ]
        self.assert_every_order(changes, b"adb")

    def test_from_both_copies_at_one_place(self):
        start = [opened(0, 1), opened(1, 2), put(0, 0, b"[]"), join(1, 0)]
        for at, whole in ((0, b"xyab[]"), (1, b"[xyab]"), (2, b"[]xyab")):
            line = start + [put(0, at, b"ab"), put(1, at, b"xy")]
            for joins in ([join(0, 1), join(1, 0)], [join(1, 0), join(0, 1)]):
                self.assert_text(line + joins, 0, whole)
                self.assert_text(line + joins, 1, whole)

    def test_from_both_copies_with_counts_apart(self):
        start = [opened(0, 1), opened(1, 2), put(0, 0, b"[]"), join(1, 0)]
        line = start + [put(0, 2, b"-"), put(0, 1, b"ab"), put(1, 1, b"xy"), join(0, 1), join(1, 0)]
        self.assert_text(line, 0, b"[abxy]-")
        self.assert_text(line, 1, b"[abxy]-")

    def test_from_both_copies_behind_a_byte_that_one_took_out(self):
        start = [opened(0, 1), opened(1, 2), put(0, 0, b"[m]"), join(1, 0)]
        line = start + [put(0, 2, b"ab"), take(1, 1, 1), put(1, 1, b"xy"), join(0, 1), join(1, 0)]
        self.assert_text(line, 0, b"[xyab]")
        self.assert_text(line, 1, b"[xyab]")


class DepthTest(CallTest):

    def test_bytes_that_hang_on_one_another_16384_deep(self):
        data = [step % 256 for step in range(MOST)]
        line = [opened(0, 1), opened(1, 2), put(0, 0, data), join(1, 0)]
        told = ask(*line, text(0, 0, MOST), text(1, 0, MOST), number_at(1, MOST - 1), place(1, MOST, 1))
        self.assertEqual(told[-6:], [[MOST], [MOST], [0] + data, [0] + data, [0, MOST, 1], [MOST - 1]])

    def test_deep_and_learned(self):
        deep = 1700
        chain = [puts_in(1, 3, 0)] + [
            puts_in(count, 3, count % 256, (count - 1, 3)) for count in range(2, deep + 1)]
        line = [opened(0, 1), learn(0, chain), opened(1, 2), join(1, 0)]
        told = ask(*line, text(0, 0, deep), text(1, 0, deep))
        self.assertEqual(told[-2], told[-1])
        self.assertEqual(told[-1][2:], [count % 256 for count in range(2, deep + 1)])

    def test_a_late_byte_passes_over_a_deep_one(self):
        line = [opened(0, 2), put(0, 0, bytes(MOST - 1)), learn(0, [puts_in(1, 1, 97)])]
        self.assert_last(line, place(0, 1, 1), [MOST - 1])
        line = [opened(0, 2), put(0, 0, bytes(MOST - 1)), learn(0, [puts_in(1, 3, 97)])]
        self.assert_last(line, place(0, 1, 3), [0])

    def test_deep_on_both_sides(self):
        half = MOST // 2
        line = [opened(0, 1), opened(1, 2), put(0, 0, [97] * half), put(1, 0, [98] * half)]
        for joins in ([join(0, 1), join(1, 0)], [join(1, 0), join(0, 1)]):
            told = ask(*line, *joins, text(0, 0, MOST), text(1, 0, MOST))
            self.assertEqual(told[-2], [0] + [98] * half + [97] * half)
            self.assertEqual(told[-1], told[-2])

    def test_deep_and_taken_out(self):
        half = MOST // 2
        line = [opened(0, 1), opened(1, 2), put(0, 0, [97] * half), join(1, 0), take(1, 0, half), join(0, 1)]
        self.assertEqual(look(line, 0), look(line, 1))
        self.assertEqual(ask(*line, length(0), news(0, MOST))[-2], [0])


if __name__ == "__main__":
    unittest.main()
