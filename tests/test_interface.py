"""The interface: kinds, counts, what is handed in, and that nothing is kept."""

import unittest

from cardringsdesk.card import answers

from lines import ask, door, joined, opened, out, post, read, reap, work, write

LINE = joined([opened(2), write(1, [5, 6, 7]), post(0, 1, 3, 1), door(0), read(1), work(9), reap(0), out(), out(),
               read(64), opened(0)])


class InterfaceTest(unittest.TestCase):
    def test_a_line_as_it_stands(self):
        calls = [3, 1, 0, 0, 1, 3, 6, 1, 1, 0, 2, 4, 63, 2, 255, 1, 0, 4, 4, 3, 63, 2, 1, 0, 5, 1, 3, 0, 6, 1, 64, 0,
                 7, 1, 3, 0, 8, 0, 0, 8, 0, 0]
        self.assertEqual(answers(calls), [1, -7, 1, 0, 1, 0, 1, 1, 1, 1, 1, 1, 4, 1, 63, 2, 1, 3, 2, 255, 1, 1, -6])

    def test_read_tells_257_numbers(self):
        self.assertEqual(answers([1, 3, 1, 1, 1, 0, 3, 1, 0, 0]), [1, 0, 257] + [0] * 257)

    def test_one_call(self):
        self.assertEqual(answers([1, 3, 1, 1, 1, 0]), [1, 0])
        self.assertEqual(answers([8, 0, 0]), [1, -7])

    def test_what_is_handed_in_stays(self):
        handed = list(LINE)
        answers(handed)
        self.assertEqual(handed, LINE)

    def test_what_is_given_back_is_a_list_of_its_own(self):
        first = answers(LINE)
        kept = list(first)
        first.clear()
        self.assertEqual(answers(LINE), kept)

    def test_nothing_is_kept_from_one_time_to_the_next(self):
        first = answers(LINE)
        self.assertEqual(answers([3, 1, 1, 0]), [1, -7])
        self.assertEqual(answers(LINE), first)
        self.assertEqual(answers(joined([opened(), read(1), out()])), [1, 0, 257] + [0] * 257 + [1, -6])

    def test_only_whole_numbers_are_given_back(self):
        told = answers(LINE)
        self.assertIs(type(told), list)
        for number in told:
            self.assertIs(type(number), int)

    def test_the_longest_lines(self):
        self.assertEqual(ask(opened(), *[write(0, [9] * 256)] * 59)[1:], [[0]] * 59)
        self.assertEqual(ask(opened(), write(63, [9] * 256), *[read(63)] * 58)[2:], [[0] + [9] * 256] * 58)
        told = ask(opened(5), *[post(0, buffer, 256, 0) for buffer in range(32)], door(0), work(), reap(0),
                   post(0, 0, 1, 1), door(0), work(), out())
        self.assertEqual(told[-1], [4096] + [0] * 4096)
