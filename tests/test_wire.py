"""Point 10: wire, and what comes."""

from lines import (LineTest, ask, cause, counts, door, lend, lent, opened, out, outside, post, read, reap, sent, state,
                   take, tick, unasked, wire, wire_no_bytes, work, write)

WHOLE = [(11 * place + 5) % 256 for place in range(256)]
NO_FRAME = [0, 0, 0, 0, 0, 0]

# How many bytes come, and how long its pieces are.
SIZES = {
    1: [1], 2: [2], 255: [255], 256: [256], 257: [256, 1], 511: [256, 255], 512: [256, 256], 513: [256, 256, 1],
    768: [256, 256, 256], 769: [256, 256, 256, 1], 1023: [256, 256, 256, 255], 1024: [256, 256, 256, 256]}


def coming(n):
    """Bytes of which no piece is like another."""
    return [(place + 37 * (place // 256) + 1) % 256 for place in range(n)]


class ComesTest(LineTest):
    def assert_comes(self, n, spare):
        pieces = SIZES[n]
        buffers = [50 - 7 * place for place in range(len(pieces) + spare)]
        data = coming(n)
        told = ask(opened(), *[write(buffer, WHOLE) for buffer in buffers], *lent(*buffers), wire(data), state(4),
                   counts(), *[one for buffer in buffers[:len(pieces)] for one in (take(), read(buffer))], take())
        told = told[2 + 2 * len(buffers):]
        self.assertEqual(told[:3], [[1], [0, 0, spare, len(pieces), 0], [0, 0, 1, 0, 0, 0]])
        for place, length in enumerate(pieces):
            last = 1 if place == len(pieces) - 1 else 0
            self.assertEqual(told[3 + 2 * place], [0, buffers[place], length, last])
            piece = data[256 * place:256 * place + length]
            self.assertEqual(told[4 + 2 * place], [0] + piece + WHOLE[length:])
        self.assertEqual(told[-1], [-6])

    def assert_dropped(self, n, seen):
        buffers = [50 - 7 * place for place in range(seen)]
        filled = [one for buffer in buffers for one in (wire([9]), take(), read(buffer))]
        told = ask(opened(6, 1, 1), *[write(buffer, WHOLE) for buffer in buffers], *lent(*buffers), wire(coming(n)),
                   counts(), state(4), take(), tick(1000), cause(), *filled)
        told = told[2 + 2 * seen:]
        self.assertEqual(told[:6], [[0], [0, 0, 0, 1, 0, 0], [0, 0, seen, 0, 0], [-6], [0], [0, 0]])
        for place, buffer in enumerate(buffers):
            self.assertEqual(told[6 + 3 * place:9 + 3 * place], [[1], [0, buffer, 1, 1], [0, 9] + WHOLE[1:]])

    def test_as_many_buffers_as_pieces(self):
        for n in SIZES:
            self.assert_comes(n, 0)

    def test_more_buffers_than_pieces(self):
        for n in SIZES:
            self.assert_comes(n, 1)
            self.assert_comes(n, 4)

    def test_fewer_buffers_than_pieces(self):
        for n in SIZES:
            for seen in range(len(SIZES[n])):
                self.assert_dropped(n, seen)

    def test_with_k_1_three_pieces_never_come(self):
        self.assert_answers(
            (opened(1), [0]), *unasked(lent(0, 1)), (wire([1] * 513), [0]), (wire([1] * 512), [1]),
            (counts(), [0, 0, 1, 1, 0, 0]))

    def test_wrong_numbers(self):
        for n in outside(1, 1024):
            self.assert_answers(
                (opened(6, 1, 1), [0]), *unasked(lent(0, 1, 2, 3, 4)), (wire_no_bytes(n), [-2]), (counts(), NO_FRAME),
                (state(4), [0, 0, 5, 0, 0]), (take(), [-6]), (tick(), [0]), (cause(), [0, 0]), (wire([4]), [1]))

    def test_a_wrong_number_is_told_where_it_would_be_dropped(self):
        self.assert_answers((opened(), [0]), (wire_no_bytes(0), [-2]), (wire_no_bytes(1025), [-2]),
                            (counts(), NO_FRAME))

    def test_the_edges_of_a_byte(self):
        self.assert_answers((opened(), [0]), *unasked(lent(0)), (wire([0, 255, 0, 255]), [1]), (take(), [0, 0, 4, 1]),
                            (read(0), [0, 0, 255, 0, 255] + [0] * 252))

    def test_only_seen_ones_count(self):
        self.assert_answers(
            (opened(), [0]), (lend(0), [1]), (wire([1]), [0]), (door(4), [1]), (lend(1), [2]), (wire([1] * 257), [0]),
            (state(4), [0, 1, 1, 0, 0]), (door(4), [1]), (wire([2] * 257), [1]), (wire([3]), [0]),
            (counts(), [0, 0, 1, 3, 0, 0]), (take(), [0, 0, 256, 0]), (read(0), [0] + [2] * 256),
            (take(), [0, 1, 1, 1]), (read(1), [0, 2] + [0] * 255))

    def test_done_ones_do_not_count(self):
        self.assert_answers(
            (opened(), [0]), *unasked(lent(0, 1)), (wire([1]), [1]), (wire([2] * 257), [0]), (take(), [0, 0, 1, 1]),
            (wire([2] * 257), [0]), (lend(0), [2]), (wire([2] * 257), [0]), (door(4), [1]), (wire([3] * 257), [1]),
            (take(), [0, 1, 256, 0]), (take(), [0, 0, 1, 1]))

    def test_seen_ones_of_other_rings_do_not_count(self):
        self.assert_answers(
            (opened(), [0]), *[(post(ring, ring), [1]) for ring in range(4)], *[(door(ring), [1]) for ring in range(4)],
            (wire([1]), [0]), *[(state(ring), [0, 0, 1, 0, 0]) for ring in range(4)])


class OrderTest(LineTest):
    def test_filled_in_the_order_lent(self):
        self.assert_answers(
            (opened(), [0]), (lend(9), [1]), (lend(4), [2]), (door(4), [2]), (lend(30), [3]), (wire([1]), [1]),
            (lend(2), [4]), (door(4), [2]), (wire([2]), [1]), (wire([3]), [1]), (wire([4]), [1]),
            (take(), [0, 9, 1, 1]), (take(), [0, 4, 1, 1]), (take(), [0, 30, 1, 1]), (take(), [0, 2, 1, 1]),
            *[(read(buffer), [0, mark] + [0] * 255) for buffer, mark in ((9, 1), (4, 2), (30, 3), (2, 4))])

    def test_a_dropped_one_between(self):
        self.assert_answers(
            (opened(), [0]), *unasked(lent(3, 1, 2)), (wire([1]), [1]), (wire([2] * 1024), [0]), (wire([3] * 300), [1]),
            (take(), [0, 3, 1, 1]), (take(), [0, 1, 256, 0]), (take(), [0, 2, 44, 1]), (take(), [-6]),
            (read(3), [0, 1] + [0] * 255), (read(1), [0] + [3] * 256), (read(2), [0] + [3] * 44 + [0] * 212),
            (counts(), [0, 0, 2, 1, 0, 0]))


class StaysTest(LineTest):
    def test_a_shorter_piece_leaves_what_came_before(self):
        first = coming(256)
        self.assert_answers(
            (opened(), [0]), *unasked(lent(6)), (wire(first), [1]), (take(), [0, 6, 256, 1]), *unasked(lent(6)),
            (wire([7, 8, 9]), [1]), (take(), [0, 6, 3, 1]), (read(6), [0, 7, 8, 9] + first[3:]), *unasked(lent(6)),
            (wire([1]), [1]), (take(), [0, 6, 1, 1]), (read(6), [0, 1, 8, 9] + first[3:]))

    def test_buffers_that_get_nothing_stay(self):
        self.assert_answers(
            (opened(), [0]), (write(1, WHOLE), [0]), (write(2, WHOLE), [0]), (write(3, WHOLE), [0]),
            *unasked(lent(1, 2)), (wire([5]), [1]), (read(3), [0] + WHOLE), (wire([6]), [1]), (take(), [0, 1, 1, 1]),
            (take(), [0, 2, 1, 1]), (read(1), [0, 5] + WHOLE[1:]), (read(2), [0, 6] + WHOLE[1:]))

    def test_what_comes_leaves_what_is_sent(self):
        self.assert_answers(
            (opened(), [0]), (write(1, [4, 5]), [0]), (post(2, 1, 2, 0), [1]), (door(2), [1]), (work(), [1]),
            *unasked(lent(8)), (wire([9, 9]), [1]), (state(2), [0, 0, 0, 1, 2]), (counts(), [0, 0, 1, 0, 0, 2]),
            (write(3, [6]), [0]), *unasked(sent(2, 3)), (out(), [3, 4, 5, 6]), (counts(), [0, 1, 1, 0, 0, 3]))

    def test_what_is_dropped_changes_nothing_but_counts(self):
        calls = [opened(1, 3, 5), write(0, [1]), post(1, 0, 1, 0), lend(1), door(4), door(1), work(), lend(2),
                 tick(2), wire([8]), state(4), tick(2), state(1), cause(), take(), read(1), door(4), wire([7]), take(),
                 read(2), reap(1), tick(5), cause(), out()]
        plain = ask(*calls)
        for place in range(1, len(calls) + 1):
            told = ask(*calls[:place], wire([3] * 1024), counts(), *calls[place:], counts())
            self.assertEqual(told[place], [0])
            self.assertEqual(told[place + 1][3], 1)
            self.assertEqual(told[:place] + told[place + 2:-1], plain)
            self.assertEqual(told[-1], [0, 0, 2, 1, 0, 1])
