"""The interface: how calls stand in the list, what is given back, and what stays as it is."""

import contextlib
import io
import unittest

from tests.helper import (
    MOST, MOST_CALLS, MOST_NUMBERS, TOP_COUNT, ask, counts, flat, join, learn, length, news, number_at, opened,
    place, put, puts_in, seen, take, text,
)
from textcopies.copies import answers

EVERY_CALL = [
    opened(0, 1), opened(1, 2), put(0, 0, b"abc"), take(0, 0, 1), text(0, 0, 2), length(0), number_at(0, 1),
    place(0, 2, 1), seen(0), news(0, 9), learn(0, [puts_in(9, 9, 120)]), join(1, 0), put(1, 0, b"q"),
    take(1, 1, 1), text(1, 0, 3), length(1), number_at(1, 0), place(1, 10, 2), seen(1), news(1, 2),
    learn(1, [puts_in(9, 8, 121)]), join(0, 1), opened(0, 0), put(0, -1, b"a"), learn(0, [[0] * 16]),
]

# As many numbers as a line may have: a full copy, and changes that are all known to it.
LONGEST = [
    opened(0, 1), put(0, 0, bytes(MOST)),
    learn(0, [puts_in(count, 1, 0, (count - 1, 1)) for count in range(2, 851)]),
    opened(1, 2), number_at(0, MOST - 1), length(0),
]


class Watched(list):
    """A list that tells on whoever changes it, for a while or for good."""

    def refuse(self, *args):
        raise AssertionError("the list was changed")

    append = extend = insert = pop = remove = clear = sort = reverse = refuse
    __setitem__ = __delitem__ = __iadd__ = __imul__ = refuse


class InterfaceTest(unittest.TestCase):

    def test_numbers_as_they_stand(self):
        calls = [
            0, 2, 0, 7, 0,
            0, 3, 1, 0, 2, 1, 2, 104, 105,
            0, 3, 3, 0, 2, 0,
            0, 2, 5, 1, 0,
            1, 2, 0, 8, 0,
            1, 2, 10, 0, 0,
            1, 3, 2, 0, 1, 0,
            1, 1, 4, 0,
            1, 3, 6, 2, 7, 0,
            1, 2, 9, 1, 1, 16, 9, 1, 33, 0, 4, 0, 0, 0, 2, 0, 0, 0, 7, 0, 0, 0,
            1, 2, 0, 256, 0,
            1, 3, 1, 0, 16385, 1, 0,
            1, 3, 3, 0, 2, 0,
            1, 2, 8, 1, 1, 256] + [9] * 7 + [1] + [9] * 248
        self.assertEqual(answers(calls), [
            1, 0,
            1, 2,
            3, 0, 104, 105,
            3, 0, 2, 7,
            1, 0,
            1, 2,
            1, 1,
            1, 1,
            1, 0,
            1, 2,
            1, -2,
            1, -2,
            3, 0, 105, 33,
            17, 1, 7, 1, 105, 0, 2, 0, 0, 0, 1, 0, 0, 0, 7, 0, 0, 0])

    def test_seen_has_257_numbers(self):
        told = answers(flat([opened(1, 255), put(1, 0, b"a"), seen(1)]))
        self.assertEqual(told, [1, 0, 1, 1, 257, 0] + [0] * 255 + [1])

    def test_one_call(self):
        self.assertEqual(answers(opened(1, 1)), [1, 0])

    def test_what_is_handed_in_stays(self):
        for calls in (flat(EVERY_CALL), flat(LONGEST)):
            before = list(calls)
            answers(calls)
            self.assertEqual(calls, before)

    def test_a_list_that_can_not_be_changed(self):
        for calls in (flat(EVERY_CALL), flat(LONGEST)):
            self.assertEqual(answers(Watched(calls)), answers(calls))

    def test_a_second_time_answers_as_the_first(self):
        for calls in (flat(EVERY_CALL), flat(LONGEST)):
            first = answers(calls)
            kept = list(first)
            self.assertEqual(answers(list(calls)), kept)
            self.assertEqual(answers(calls), kept)
            self.assertEqual(first, kept)

    def test_a_time_behind_another_line_answers_as_the_first(self):
        top = [opened(0, 9), learn(0, [puts_in(TOP_COUNT, 8, 1)]), put(0, 0, b"x"), seen(0), opened(1, 9), join(1, 0)]
        lines = [flat(EVERY_CALL), flat(top), flat(LONGEST), flat([opened(0, 1), seen(0), put(0, 0, b"a")])]
        alone = [answers(line) for line in lines]
        for first in lines:
            for line, told in zip(lines, alone):
                answers(first)
                self.assertEqual(answers(line), told)

    def test_nothing_is_kept_between(self):
        answers(flat([opened(0, 1), put(0, 0, b"abc"), opened(1, 1), join(1, 0)]))
        told = answers(flat([opened(0, 1), opened(1, 1), length(0), length(1), put(0, 0, b"x"), number_at(0, 0)]))
        self.assertEqual(told, [1, 0, 1, 0, 1, 0, 1, 0, 1, 1, 3, 0, 1, 1])

    def test_what_is_given_back_may_be_changed(self):
        calls = flat([opened(0, 1), put(0, 0, b"abc"), seen(0), text(0, 0, 3)])
        first = answers(calls)
        kept = list(first)
        first.clear()
        self.assertEqual(answers(calls), kept)

    def test_a_list_of_whole_numbers(self):
        told = answers(flat(EVERY_CALL))
        self.assertIs(type(told), list)
        self.assertEqual({type(number) for number in told}, {int})

    def test_nothing_is_printed(self):
        out = io.StringIO()
        with contextlib.redirect_stdout(out), contextlib.redirect_stderr(out):
            answers(flat(EVERY_CALL))
        self.assertEqual(out.getvalue(), "")


class LongLineTest(unittest.TestCase):

    def test_900_calls(self):
        calls = [opened(0, 1), opened(1, 2)]
        for step in range(224):
            calls += [put(0, step, [step]), join(1, 0), take(1, step // 2, 0), length(1)]
        calls += [text(0, 0, 224), text(1, 0, 224)]
        told = ask(*calls)
        self.assertEqual(len(told), 900)
        self.assertEqual(told[-1], [0] + list(range(224)))
        self.assertEqual(told[-2], told[-1])

    def test_900_calls_on_a_long_text(self):
        calls = [opened(0, 1), opened(1, 2), put(0, 0, bytes(15000)), join(1, 0)]
        for step in range(224):
            calls += [put(0, 100 + step, [1]), take(1, 200, 2), join(0, 1), join(1, 0)]
        told = ask(*calls)
        self.assertEqual(len(told), 900)
        self.assertEqual(told[-1], [15000 - 224])
        self.assertEqual(told[-2], told[-1])

    def test_30000_numbers(self):
        self.assertEqual(len(flat(LONGEST)), MOST_NUMBERS)
        self.assertEqual(ask(*LONGEST), [[0], [MOST], [MOST], [0], [0, MOST, 1], [MOST]])

    def test_900_calls_on_the_greatest_copies(self):
        calls = [opened(0, 1), opened(1, 2), put(0, 0, bytes(MOST)), join(1, 0)]
        answered = [[0], [0], [MOST], [MOST]]
        for step in range(224):
            calls += [join(1, 0), put(0, step, b"x"), take(1, step, 1), number_at(1, MOST - 1 - step)]
            answered += [[MOST], [-1], [-1], [0, MOST - step, 1]]
        self.assertEqual(len(calls), MOST_CALLS)
        self.assertEqual(ask(*calls), answered)

    def test_a_copy_that_is_opened_and_filled_again_and_again(self):
        calls = [opened(0, 1), put(0, 0, bytes(MOST))]
        for step in range(50):
            calls += [opened(1, 2 + step), join(1, 0)]
        self.assertEqual(ask(*calls)[2:], [[0], [MOST]] * 50)

    def test_nearly_a_million_numbers_are_answered(self):
        data = [step % 256 for step in range(MOST)]
        calls = [opened(0, 1), put(0, 0, data)] + [text(0, 0, MOST)] * 44 + [news(0, MOST)] + [seen(0)] * 26
        told = ask(*calls)
        self.assertGreater(sum(len(answer) for answer in told), 980000)
        self.assertEqual(told[2:46], [[0] + data] * 44)
        self.assertEqual(told[47:], [[0] + counts({1: MOST})] * 26)


if __name__ == "__main__":
    unittest.main()
