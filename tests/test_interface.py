"""The interface: kinds, counts, what is handed in, and that nothing is kept."""

import unittest

from cardringsdesk.card import answers

from lines import (ask, cause, counts, door, joined, lend, opened, out, post, read, reap, state, take, tick, wire,
                   wire_no_bytes, work, write)

LINE = joined([
    take(), opened(2, 3, 9), write(1, [5, 6, 7]), post(0, 1, 3, 1), door(0), read(1), work(9), reap(0), out(), out(),
    read(64), opened(0), lend(2), lend(3), lend(2), door(4), wire([9] * 300), wire([1]), tick(8), cause(), tick(1),
    take(), state(4), read(2), state(5), counts(), take(), take(), wire_no_bytes(0), cause(), tick(0), lend(64)])


class Sealed(list):
    """A list that can't be changed."""

    def refuse(self, *given):
        raise AssertionError("what was handed in is changed")

    append = extend = insert = pop = remove = clear = reverse = sort = refuse
    __setitem__ = __delitem__ = __iadd__ = __imul__ = refuse


def calls_of(line):
    found = {}
    place = 0
    while place < len(line):
        found[line[place]] = True
        place += line[place + 1] + 3
    return found


class InterfaceTest(unittest.TestCase):
    def test_a_line_as_it_stands(self):
        calls = [3, 1, 0, 0, 1, 3, 6, 1, 1, 0, 2, 4, 63, 2, 255, 1, 0, 4, 4, 3, 63, 2, 1, 0, 5, 1, 3, 0, 6, 1, 64, 0,
                 7, 1, 3, 0, 8, 0, 0, 8, 0, 0]
        self.assertEqual(answers(calls), [1, -7, 1, 0, 1, 0, 1, 1, 1, 1, 1, 1, 4, 1, 63, 2, 1, 3, 2, 255, 1, 1, -6])

    def test_the_later_calls_as_they_stand(self):
        calls = [15, 0, 0, 1, 3, 2, 1, 5, 0, 9, 1, 63, 0, 5, 1, 4, 0, 10, 3, 2, 255, 1, 0, 12, 1, 1, 0, 14, 1, 4, 0,
                 11, 0, 0, 11, 0, 0, 13, 0, 0, 10, 1, 0, 0, 10, 2, 1, 7, 0, 15, 0, 0, 14, 1, 5, 0, 12, 1, 1000, 0]
        self.assertEqual(answers(calls), [
            1, -7, 1, 0, 1, 1, 1, 1, 1, 1, 1, 1, 5, 0, 0, 0, 1, 0, 4, 0, 63, 2, 1, 1, -6, 2, 1, 1, 1, -2, 1, 0,
            6, 0, 0, 1, 1, 0, 0, 1, -2, 1, 0])

    def test_how_many_numbers_each_call_tells(self):
        told = ask(opened(), write(0, [1]), read(0), post(0, 0), door(0), work(), reap(0), out(), lend(0), door(4),
                   wire([1]), take(), tick(), cause(), state(0), counts())
        self.assertEqual([len(one) for one in told], [1, 1, 257, 1, 1, 1, 4, 2, 1, 1, 1, 4, 1, 2, 5, 6])

    def test_read_tells_257_numbers(self):
        self.assertEqual(answers([1, 3, 1, 1, 1, 0, 3, 1, 0, 0]), [1, 0, 257] + [0] * 257)

    def test_one_call(self):
        self.assertEqual(answers([1, 3, 1, 1, 1, 0]), [1, 0])
        self.assertEqual(answers([8, 0, 0]), [1, -7])

    def test_what_is_handed_in_stays(self):
        handed = list(LINE)
        self.assertEqual(answers(handed), answers(list(LINE)))
        self.assertEqual(handed, LINE)

    def test_what_is_handed_in_is_not_changed_for_a_while_either(self):
        self.assertEqual(answers(Sealed(LINE)), answers(LINE))

    def test_the_line_has_all_calls(self):
        self.assertEqual(sorted(calls_of(LINE)), list(range(1, 16)))

    def test_what_is_given_back_is_a_list_of_its_own(self):
        first = answers(LINE)
        kept = list(first)
        first.clear()
        self.assertEqual(answers(LINE), kept)

    def test_nothing_is_kept_from_one_time_to_the_next(self):
        first = answers(LINE)
        self.assertEqual(answers([3, 1, 1, 0]), [1, -7])
        self.assertEqual(answers(LINE), first)
        self.assertEqual(answers(joined([opened(), read(1), out()])), [1, 0, 257] + [0] * 257 + [1, -6])

    def test_only_whole_numbers_are_given_back(self):
        told = answers(LINE)
        self.assertIs(type(told), list)
        for number in told:
            self.assertIs(type(number), int)

    def test_the_longest_lines(self):
        longest = [wire([place % 256] * 1024) for place in range(26)]
        told = ask(opened(), *[lend(buffer) for buffer in range(12)], door(4), *longest, counts())
        self.assertEqual(told[14:], [[1]] * 3 + [[0]] * 23 + [[0, 0, 3, 23, 0, 0]])
        self.assertEqual(ask(opened(), *[write(0, [9] * 256)] * 59)[1:], [[0]] * 59)
        self.assertEqual(ask(opened(), write(63, [9] * 256), *[read(63)] * 58)[2:], [[0] + [9] * 256] * 58)
        told = ask(opened(5), *[post(0, buffer, 256, 0) for buffer in range(32)], door(0), work(), reap(0),
                   post(0, 0, 1, 1), door(0), work(), out())
        self.assertEqual(told[-1], [4096] + [0] * 4096)
