"""A refusal changes nothing and tells nothing behind it."""

import unittest

from lines import ask, door, opened, out, post, read, reap, work, write, write_no_bytes

# k is 1, so that rings fill; at its end all that a call of the points 1 to 8 can show is asked for.
BUSY = [
    opened(1), write(0, [1, 2, 3]), write(1, [4, 5]), write(2, [6]), write(3, [7]), write(4, [8, 9]),
    post(0, 0, 3, 0), post(0, 1, 2, 1), post(1, 2), door(0), work(1), post(1, 3, 1, 0), door(1), work(2), out(),
    reap(0), post(3, 4, 2, 0), door(3), work(1), post(0, 0, 2, 1), post(3, 5), work(3), door(3), door(0), work(1),
    out(), reap(3), work(64), post(2, 6), door(2), reap(1), work(2), post(2, 7), out(), door(4),
    door(0), door(1), door(2), door(3), work(), reap(0), reap(1), reap(2), reap(3), out(), out(), out(), out(),
    read(0), read(1), read(2), read(3), read(4), read(5), read(6), read(7)]

WRONG = [
    opened(0), opened(7), opened(1, 65), opened(1, 1, 1001), write(-1, [1]), write(64, [1]), write_no_bytes(0, -1),
    write_no_bytes(0, 257), read(-1), read(64), post(-1, 8), post(4, 8), post(0, 64), post(0, 8, 0), post(0, 8, 257),
    post(0, 8, 1, -1), post(0, 8, 1, 2), door(-1), door(5), work(0), work(65), reap(-1), reap(4)]

MAYBE_REFUSED = (
    [write(buffer, [99]) for buffer in range(8)] + [post(ring, buffer) for ring in range(4) for buffer in (0, 4, 10)]
    + [out(), read(0)])


class RefusalTest(unittest.TestCase):
    def setUp(self):
        self.plain = ask(*BUSY)

    def behind(self, place, one):
        told = ask(*BUSY[:place], one, *BUSY[place:])
        return told[place], told[:place] + told[place + 1:]

    def test_wrong_numbers_change_nothing_anywhere(self):
        for place in range(1, len(BUSY) + 1):
            for one in WRONG:
                answer, others = self.behind(place, one)
                self.assertEqual(answer, [-2], (place, one))
                self.assertEqual(others, self.plain, (place, one))

    def test_what_the_state_refuses_changes_nothing_anywhere(self):
        met = {}
        for place in range(1, len(BUSY) + 1):
            for one in MAYBE_REFUSED:
                answer, others = self.behind(place, one)
                if answer[0] < 0:
                    self.assertEqual(len(answer), 1, (place, one))
                    self.assertEqual(others, self.plain, (place, one))
                    met[(one[0], answer[0])] = True
        self.assertEqual(sorted(met), [(2, -4), (3, -4), (4, -5), (4, -4), (8, -6)])

    def test_without_a_card_nothing_is_begun(self):
        for one in MAYBE_REFUSED + WRONG[4:]:
            answer, others = self.behind(0, one)
            self.assertEqual(answer, [-7])
            self.assertEqual(others, self.plain)
