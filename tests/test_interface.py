"""The interface: how calls stand in the list, what is given back, and what stays as it is."""

import contextlib
import io
import unittest

from tests.helper import (
    MOST, ask, join, learn, length, news, number_at, opened, place, put, puts_in, seen, take, text,
)
from textcopies.copies import answers

EVERY_CALL = [
    opened(0, 1), opened(1, 2), put(0, 0, b"abc"), take(0, 0, 1), text(0, 0, 2), length(0), number_at(0, 1),
    place(0, 2, 1), seen(0), news(0, 9), learn(0, [puts_in(9, 9, 120)]), join(1, 0), put(1, 0, b"q"),
    take(1, 1, 1), text(1, 0, 3), length(1), number_at(1, 0), place(1, 10, 2), seen(1), news(1, 2),
    learn(1, [puts_in(9, 8, 121)]), join(0, 1), opened(0, 0), put(0, -1, b"a"), learn(0, [[0] * 16]),
]


def flat(calls):
    return [number for call in calls for number in call]


class InterfaceTest(unittest.TestCase):

    def test_numbers_as_they_stand(self):
        calls = [
            0, 2, 0, 7, 0,
            0, 3, 1, 0, 2, 1, 2, 104, 105,
            0, 3, 3, 0, 2, 0,
            0, 2, 5, 1, 0,
            1, 2, 0, 8, 0,
            1, 2, 10, 0, 0,
            1, 3, 2, 0, 1, 0,
            1, 1, 4, 0,
            1, 3, 6, 2, 7, 0,
            1, 2, 9, 1, 1, 16, 9, 1, 33, 0, 4, 0, 0, 0, 2, 0, 0, 0, 7, 0, 0, 0,
            1, 2, 0, 256, 0,
            1, 3, 1, 0, 16385, 1, 0,
            1, 3, 3, 0, 2, 0,
            1, 2, 8, 1, 1, 256] + [9] * 7 + [1] + [9] * 248
        self.assertEqual(answers(calls), [
            1, 0,
            1, 2,
            3, 0, 104, 105,
            3, 0, 2, 7,
            1, 0,
            1, 2,
            1, 1,
            1, 1,
            1, 0,
            1, 2,
            1, -2,
            1, -2,
            3, 0, 105, 33,
            17, 1, 7, 1, 105, 0, 2, 0, 0, 0, 1, 0, 0, 0, 7, 0, 0, 0])

    def test_seen_has_257_numbers(self):
        told = answers(flat([opened(1, 255), put(1, 0, b"a"), seen(1)]))
        self.assertEqual(told, [1, 0, 1, 1, 257, 0] + [0] * 255 + [1])

    def test_one_call(self):
        self.assertEqual(answers(opened(1, 1)), [1, 0])

    def test_what_is_handed_in_stays(self):
        calls = flat(EVERY_CALL)
        before = list(calls)
        answers(calls)
        self.assertEqual(calls, before)

    def test_a_list_that_can_not_be_changed(self):
        class Watched(list):
            def refuse(self, *args):
                raise AssertionError("the list was changed")
            append = extend = insert = pop = remove = clear = sort = reverse = refuse
            __setitem__ = __delitem__ = __iadd__ = __imul__ = refuse

        calls = flat(EVERY_CALL)
        self.assertEqual(answers(Watched(calls)), answers(calls))

    def test_a_second_time_answers_as_the_first(self):
        calls = flat(EVERY_CALL)
        first = answers(calls)
        kept = list(first)
        self.assertEqual(answers(list(calls)), kept)
        self.assertEqual(first, kept)

    def test_nothing_is_kept_between(self):
        answers(flat([opened(0, 1), put(0, 0, b"abc"), opened(1, 1), join(1, 0)]))
        told = answers(flat([opened(0, 1), opened(1, 1), length(0), length(1), put(0, 0, b"x"), number_at(0, 0)]))
        self.assertEqual(told, [1, 0, 1, 0, 1, 0, 1, 0, 1, 1, 3, 0, 1, 1])

    def test_what_is_given_back_may_be_changed(self):
        calls = flat([opened(0, 1), put(0, 0, b"abc"), seen(0), text(0, 0, 3)])
        first = answers(calls)
        kept = list(first)
        first.clear()
        self.assertEqual(answers(calls), kept)

    def test_a_list_of_whole_numbers(self):
        told = answers(flat(EVERY_CALL))
        self.assertIs(type(told), list)
        self.assertEqual({type(number) for number in told}, {int})

    def test_nothing_is_printed(self):
        out = io.StringIO()
        with contextlib.redirect_stdout(out), contextlib.redirect_stderr(out):
            answers(flat(EVERY_CALL))
        self.assertEqual(out.getvalue(), "")


class LongLineTest(unittest.TestCase):

    def test_900_calls(self):
        calls = [opened(0, 1), opened(1, 2)]
        for step in range(224):
            calls += [put(0, step, [step]), join(1, 0), take(1, step // 2, 0), length(1)]
        calls += [text(0, 0, 224), text(1, 0, 224)]
        told = ask(*calls)
        self.assertEqual(len(told), 900)
        self.assertEqual(told[-1], [0] + list(range(224)))
        self.assertEqual(told[-2], told[-1])

    def test_900_calls_on_a_long_text(self):
        calls = [opened(0, 1), opened(1, 2), put(0, 0, bytes(15000)), join(1, 0)]
        for step in range(224):
            calls += [put(0, 100 + step, [1]), take(1, 200, 2), join(0, 1), join(1, 0)]
        told = ask(*calls)
        self.assertEqual(len(told), 900)
        self.assertEqual(told[-1], [15000 - 224])
        self.assertEqual(told[-2], told[-1])

    def test_the_longest_list(self):
        calls = [opened(0, 1), put(0, 0, bytes(MOST))]
        rest = 30000 - len(flat(calls))
        calls += [learn(0, [puts_in(count, 1, 0, (count - 1, 1)) for count in range(2, 2 + (rest - 6) // 16)])]
        self.assertGreater(len(flat(calls)), 30000 - 16)
        self.assertEqual(ask(*calls), [[0], [MOST], [MOST]])


if __name__ == "__main__":
    unittest.main()
