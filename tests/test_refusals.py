"""A refusal changes nothing and tells nothing behind it; of several the one told first."""

import unittest

from lines import (LineTest, ask, cause, counts, door, lend, opened, out, post, read, reap, sent, state, take, tick,
                   wire, wire_no_bytes, work, write, write_no_bytes)

# k is 1, so that rings fill; at the end of each line all that these calls can show is asked for.
SENDING = [
    opened(1), write(0, [1, 2, 3]), write(1, [4, 5]), write(2, [6]), write(3, [7]), write(4, [8, 9]),
    post(0, 0, 3, 0), post(0, 1, 2, 1), post(1, 2), door(0), work(1), post(1, 3, 1, 0), door(1), work(2), out(),
    reap(0), post(3, 4, 2, 0), door(3), work(1), post(0, 0, 2, 1), post(3, 5), work(3), door(3), door(0), work(1),
    out(), reap(3), work(64), post(2, 6), door(2), reap(1), work(2), post(2, 7), out(), door(4),
    door(0), door(1), door(2), door(3), work(), reap(0), reap(1), reap(2), reap(3), out(), out(), out(), out(),
    read(0), read(1), read(2), read(3), read(4), read(5), read(6), read(7)]

LENDING = [
    opened(1, 3, 5), write(0, [1, 2, 3]), write(1, [4, 5]), lend(0), tick(4), lend(1), door(4), *sent(2, 2, 9, 0),
    tick(2), wire([7] * 300), tick(1), take(), counts(), post(0, 0, 2, 1), cause(), tick(5), lend(3), state(4),
    state(0), door(4), wire([8]), tick(4), take(), door(0), tick(1), cause(), wire([6]), lend(1), counts(), door(4),
    work(), tick(2), wire([5, 5]), tick(2), take(), tick(1), cause(), lend(4), state(4), take(), take(), door(4),
    wire([3]), take(), state(2), state(4), counts(), cause(), out(), read(0), read(1), read(3), read(4), reap(0),
    reap(2)]

WRONG = [
    opened(0), opened(7), opened(1, 65), opened(1, 1, 1001), write(-1, [1]), write(64, [1]), write_no_bytes(0, -1),
    write_no_bytes(0, 257), read(-1), read(64), post(-1, 8), post(4, 8), post(0, 64), post(0, 8, 0), post(0, 8, 257),
    post(0, 8, 1, -1), post(0, 8, 1, 2), door(-1), door(5), work(0), work(65), reap(-1), reap(4), lend(-1), lend(64),
    wire_no_bytes(0), wire_no_bytes(-1), wire_no_bytes(1025), tick(0), tick(-1), tick(1001), state(-1), state(5)]

MAYBE_REFUSED = (
    [write(buffer, [99]) for buffer in range(8)] + [post(ring, buffer) for ring in range(4) for buffer in (0, 4, 10)]
    + [lend(buffer) for buffer in range(8)] + [out(), take(), read(0)])

NEVER_REFUSED = [door(0), door(4), work(1), reap(0), wire([1]), tick(1), cause(), state(0), state(4), counts()]


class NothingChangedTest(unittest.TestCase):
    def behind(self, line, place, one):
        told = ask(*line[:place], one, *line[place:])
        return told[place], told[:place] + told[place + 1:]

    def test_wrong_numbers_change_nothing_anywhere(self):
        for line in (SENDING, LENDING):
            plain = ask(*line)
            for place in range(1, len(line) + 1):
                for one in WRONG:
                    answer, others = self.behind(line, place, one)
                    self.assertEqual(answer, [-2], (place, one))
                    self.assertEqual(others, plain, (place, one))

    def test_what_the_state_refuses_changes_nothing_anywhere(self):
        met = {}
        for line in (SENDING, LENDING):
            plain = ask(*line)
            for place in range(1, len(line) + 1):
                for one in MAYBE_REFUSED:
                    answer, others = self.behind(line, place, one)
                    if answer[0] < 0:
                        self.assertEqual(len(answer), 1, (place, one))
                        self.assertEqual(others, plain, (place, one))
                        met[(one[0], answer[0])] = True
        self.assertEqual(sorted(met), [(2, -4), (3, -4), (4, -5), (4, -4), (8, -6), (9, -5), (9, -4), (11, -6)])

    def test_without_a_card_nothing_is_begun(self):
        for line in (SENDING, LENDING):
            plain = ask(*line)
            for one in MAYBE_REFUSED + NEVER_REFUSED + WRONG[4:]:
                answer, others = self.behind(line, 0, one)
                self.assertEqual(answer, [-7])
                self.assertEqual(others, plain)


class WhichIsToldTest(LineTest):
    def test_no_card_before_all_else(self):
        self.assert_answers((lend(64), [-7]), (take(), [-7]), (tick(0), [-7]), (wire_no_bytes(1025), [-7]),
                            (state(9), [-7]), (out(), [-7]), (post(9, 99, 0, 9), [-7]), (cause(), [-7]))

    def test_a_wrong_number_before_the_rest(self):
        self.assert_answers(
            (opened(1), [0]), (lend(0), [1]), (lend(1), [2]), (lend(64), [-2]), (post(4, 0), [-2]),
            (post(0, 0, 257), [-2]), (write_no_bytes(0, 257), [-2]), (state(4), [0, 2, 0, 0, 0]))

    def test_a_buffer_in_a_ring_before_a_full_ring(self):
        self.assert_answers(
            (opened(1), [0]), (lend(0), [1]), (lend(1), [2]), (post(3, 2), [1]), (post(3, 3), [2]), (lend(0), [-4]),
            (lend(2), [-4]), (post(3, 1), [-4]), (post(3, 3), [-4]), (lend(4), [-5]), (post(3, 4), [-5]),
            (state(4), [0, 2, 0, 0, 0]), (state(3), [0, 2, 0, 0, 0]), (read(4), [0] * 257))
