"""Point 1, and what holds of every call: -7 and a line's beginning."""

from lines import (LARGEST, SMALLEST, LineTest, ask, cause, counts, door, lend, opened, out, outside, post, read, reap,
                   state, take, tick, wire, wire_no_bytes, work, write, write_no_bytes)

ZEROS = [0] * 257


class OpenTest(LineTest):
    def test_edges_are_taken(self):
        for k in (1, 2, 3, 4, 5, 6):
            for many in (1, 2, 63, 64):
                for late in (1, 2, 999, 1000):
                    self.assertEqual(ask(opened(k, many, late)), [[0]])

    def test_wrong_numbers_make_no_card(self):
        wrong = [opened(k, 1, 1) for k in outside(1, 6)]
        wrong += [opened(1, many, 1) for many in outside(1, 64)]
        wrong += [opened(1, 1, late) for late in outside(1, 1000)]
        wrong += [opened(0, 0, 0), opened(SMALLEST, LARGEST, SMALLEST)]
        for one in wrong:
            self.assert_answers((one, [-2]), (read(0), [-7]), (opened(), [0]), (read(0), ZEROS))

    def test_a_ring_has_two_to_the_k_places(self):
        for k in (1, 2, 3, 4, 5):
            places = 2 ** k
            told = ask(opened(k), *[post(0, buffer) for buffer in range(places + 1)])
            self.assertEqual(told[1:], [[used] for used in range(1, places + 1)] + [[-5]])

    def test_with_k_6_a_ring_takes_more_than_32(self):
        told = ask(opened(6), *[post(3, buffer) for buffer in range(58)])
        self.assertEqual(told[1:], [[used] for used in range(1, 59)])

    def test_all_buffers_are_zeros_and_the_machines(self):
        for first in (0, 32):
            told = ask(opened(), *[read(buffer) for buffer in range(first, first + 32)])
            self.assertEqual(told[1:], [ZEROS] * 32)

    def test_rings_are_empty(self):
        self.assert_answers(
            (opened(), [0]), (out(), [-6]), (work(), [0]),
            (door(0), [0]), (door(1), [0]), (door(2), [0]), (door(3), [0]), (door(4), [0]),
            (reap(0), [0]), (reap(1), [0]), (reap(2), [0]), (reap(3), [0]))

    def test_a_second_one_begins_anew(self):
        self.assert_answers(
            (opened(2), [0]), (write(5, [9, 9]), [0]), (write(6, [8]), [0]),
            (post(0, 5, 2, 1), [1]), (post(1, 6, 1, 0), [1]), (post(2, 7), [1]), (post(3, 8), [1]),
            (door(0), [1]), (door(1), [1]), (door(2), [1]), (work(2), [2]),
            (opened(1), [0]),
            (out(), [-6]), (read(5), ZEROS), (read(6), ZEROS), (read(7), ZEROS), (read(8), ZEROS),
            (reap(0), [0]), (reap(1), [0]), (door(3), [0]), (work(), [0]),
            (post(1, 5), [1]), (post(1, 6), [2]), (post(1, 7), [-5]))

    def test_a_second_one_begins_frames_anew(self):
        self.assert_answers(
            (opened(), [0]), (write(0, [7, 7, 7]), [0]), (post(0, 0, 3, 0), [1]), (door(0), [1]), (work(), [1]),
            (opened(), [0]), (write(0, [4]), [0]), (post(0, 0, 1, 1), [1]), (door(0), [1]), (work(), [1]),
            (out(), [1, 4]))

    def test_a_second_one_gives_ring_0_the_turn(self):
        self.assert_answers(
            (opened(), [0]), (post(1, 0), [1]), (door(1), [1]), (work(), [1]),
            (opened(), [0]), (write(0, [10]), [0]), (write(2, [12]), [0]),
            (post(2, 2), [1]), (door(2), [1]), (post(0, 0), [1]), (door(0), [1]), (work(), [2]),
            (out(), [1, 10]), (out(), [1, 12]), (out(), [-6]))

    def test_a_refused_one_leaves_the_card(self):
        for one in (opened(0), opened(7), opened(1, 0), opened(1, 65), opened(1, 1, 0), opened(1, 1, 1001)):
            self.assert_answers(
                (opened(1), [0]), (write(3, [5, 6]), [0]), (write(4, [7]), [0]), (post(2, 3, 2, 0), [1]),
                (door(2), [1]), (work(), [1]), (post(2, 4), [2]),
                (one, [-2]),
                (read(3), [-4]), (post(2, 9), [-5]), (door(2), [1]), (work(), [1]), (out(), [3, 5, 6, 7]),
                (reap(2), [2, 3, 2, 0, 4, 1, 1]), (read(3), [0, 5, 6] + [0] * 254))


class NoCardTest(LineTest):
    def test_all_calls_but_open(self):
        calls = [write(0, [1]), read(0), post(0, 0), door(0), work(1), reap(0), out(), lend(0), wire([5]), take(),
                 tick(1), cause(), state(0), counts()]
        for one in calls:
            self.assert_answers((one, [-7]), (one, [-7]), (opened(1, 1, 1), [0]), (counts(), [0, 0, 0, 0, 0, 0]),
                                *[(state(ring), [0, 0, 0, 0, 0]) for ring in range(5)], (tick(), [0]),
                                (cause(), [0, 0]), (read(0), ZEROS), (out(), [-6]), (take(), [-6]))

    def test_is_told_before_wrong_numbers(self):
        calls = [write_no_bytes(-1, 257), read(64), post(4, 64, 0, 2), door(5), work(0), reap(4), lend(64),
                 wire_no_bytes(0), wire_no_bytes(1025), tick(0), tick(1001), state(-1), state(5)]
        self.assert_answers(*[(one, [-7]) for one in calls])

    def test_stays_behind_a_refused_open(self):
        self.assert_answers((opened(9), [-2]), (work(0), [-7]), (opened(0), [-2]), (out(), [-7]),
                            (take(), [-7]), (counts(), [-7]), (tick(0), [-7]))
