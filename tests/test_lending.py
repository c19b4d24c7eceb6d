"""Points 9 and 11: lend and take, and the door of ring 4."""

import unittest

from cardringsdesk.card import Desk

from lines import (LineTest, ask, counts, door, lend, lent, opened, out, outside, post, read, reap, state, take,
                   unasked, wire, work, write)

ZEROS = [0] * 257


class LendTest(LineTest):
    def test_how_many_places_of_ring_4_are_used(self):
        self.assert_answers(
            (opened(3), [0]), (lend(5), [1]), (lend(6), [2]), (post(0, 7), [1]), (door(4), [2]), (lend(8), [3]),
            (wire([1]), [1]), (lend(9), [4]), (take(), [0, 5, 1, 1]), (lend(10), [4]), (lend(5), [5]))

    def test_the_edges_of_buffers(self):
        for buffer in (0, 63):
            self.assert_answers((opened(1), [0]), (lend(buffer), [1]), (read(buffer), [-4]), (door(4), [1]),
                                (wire([7, 8]), [1]), (take(), [0, buffer, 2, 1]), (read(buffer), [0, 7, 8] + [0] * 254))

    def test_wrong_numbers(self):
        for buffer in outside(0, 63):
            self.assert_answers((opened(1), [0]), (lend(buffer), [-2]), (state(4), [0, 0, 0, 0, 0]), (door(4), [0]),
                                (read(0), ZEROS), (read(63), ZEROS), (lend(0), [1]), (lend(63), [2]))

    def test_not_the_machines_while_in_a_sending_ring(self):
        for ring in (0, 1, 2, 3):
            self.assert_answers(
                (opened(), [0]), (post(ring, 9), [1]), (lend(9), [-4]), (door(ring), [1]), (lend(9), [-4]),
                (work(), [1]), (lend(9), [-4]), (state(4), [0, 0, 0, 0, 0]), (reap(ring), [1, 9, 1, 1]), (lend(9), [1]))

    def test_not_the_machines_while_lent(self):
        refused = [(lend(9), [-4]), (read(9), [-4]), (write(9, [1]), [-4]), (write(9, []), [-4]), (post(0, 9), [-4]),
                   (post(3, 9), [-4])]
        self.assert_answers(
            (opened(), [0]), (write(9, [5, 6]), [0]), (lend(9), [1]), *refused, (state(4), [0, 1, 0, 0, 0]),
            (door(4), [1]), *refused, (state(4), [0, 0, 1, 0, 0]), (wire([3]), [1]), *refused,
            (state(4), [0, 0, 0, 1, 0]), (take(), [0, 9, 1, 1]), (read(9), [0, 3, 6] + [0] * 254),
            (state(0), [0, 0, 0, 0, 0]), (state(3), [0, 0, 0, 0, 0]))

    def test_full_with_k_1_of_posted_seen_and_done_ones_together(self):
        self.assert_answers(
            (opened(1), [0]), (lend(0), [1]), (lend(1), [2]), (lend(2), [-5]), (door(4), [2]), (lend(2), [-5]),
            (wire([1]), [1]), (lend(2), [-5]), (state(4), [0, 0, 1, 1, 0]), (wire([2]), [1]), (lend(2), [-5]),
            (read(2), ZEROS), (take(), [0, 0, 1, 1]), (lend(2), [2]), (lend(3), [-5]), (state(4), [0, 1, 0, 1, 0]),
            (take(), [0, 1, 1, 1]), (lend(3), [2]))

    def test_two_to_the_k_places(self):
        for k in (1, 2, 3, 4, 5):
            places = 2 ** k
            told = ask(opened(k), *[lend(buffer) for buffer in range(places + 2)], state(4))
            self.assertEqual(told[1:], [[used] for used in range(1, places + 1)] + [[-5], [-5], [0, places, 0, 0, 0]])

    def test_with_k_6_all_that_a_line_can_lend(self):
        told = ask(opened(6), *[lend(buffer) for buffer in range(63, 5, -1)], state(4))
        self.assertEqual(told[1:], [[used] for used in range(1, 59)] + [[0, 58, 0, 0, 0]])

    def test_a_full_ring_4_leaves_the_others_and_they_leave_it(self):
        self.assert_answers(
            (opened(1), [0]), (lend(0), [1]), (lend(1), [2]), (lend(2), [-5]), (post(3, 2), [1]), (post(3, 3), [2]),
            (post(3, 4), [-5]), (post(0, 4), [1]))
        self.assert_answers((opened(1), [0]), (post(3, 2), [1]), (post(3, 3), [2]), (post(3, 4), [-5]), (lend(4), [1]))

    def test_which_refusal_is_told(self):
        self.assert_answers(
            (opened(1), [0]), (post(0, 7), [1]), (lend(0), [1]), (lend(1), [2]), (lend(64), [-2]), (lend(-1), [-2]),
            (lend(0), [-4]), (lend(7), [-4]), (lend(2), [-5]), (state(4), [0, 2, 0, 0, 0]))


class FullDeskTest(unittest.TestCase):
    def test_with_k_6_ring_4_holds_all_64(self):
        # A line is too short for this: it has at most 60 calls.
        desk = Desk()
        self.assertEqual(desk.answer(1, [6, 64, 1000]), [0])
        for buffer in range(64):
            self.assertEqual(desk.answer(9, [buffer]), [buffer + 1])
        self.assertEqual(desk.answer(14, [4]), [0, 64, 0, 0, 0])
        # With all buffers in it nothing is the machine's, and that is told before a full ring.
        self.assertEqual([desk.answer(9, [buffer]) for buffer in (0, 63)], [[-4], [-4]])
        self.assertEqual(desk.answer(5, [4]), [64])
        for frame in range(16):
            self.assertEqual(desk.answer(10, [1024] + [frame] * 1024), [1])
        self.assertEqual(desk.answer(10, [1, 9]), [0])
        self.assertEqual(desk.answer(13, []), [1, 64])
        for buffer in range(64):
            self.assertEqual(desk.answer(11, []), [0, buffer, 256, 1 if buffer % 4 == 3 else 0])
            self.assertEqual(desk.answer(3, [buffer]), [0] + [buffer // 4] * 256)
        self.assertEqual(desk.answer(11, []), [-6])
        self.assertEqual(desk.answer(15, []), [0, 0, 16, 1, 0, 0])


class LendingDoorTest(LineTest):
    def test_how_many_the_card_sees_more(self):
        self.assert_answers(
            (opened(), [0]), (door(4), [0]), (lend(0), [1]), (lend(1), [2]), (door(4), [2]), (door(4), [0]),
            (lend(2), [3]), (state(4), [0, 1, 2, 0, 0]), (door(4), [1]), (state(4), [0, 0, 3, 0, 0]))

    def test_the_other_doors_show_nothing_of_ring_4(self):
        self.assert_answers(
            (opened(), [0]), (lend(0), [1]), (post(0, 1), [1]), (door(0), [1]), (door(1), [0]), (door(2), [0]),
            (door(3), [0]), (state(4), [0, 1, 0, 0, 0]), (wire([1]), [0]), (door(4), [1]), (wire([1]), [1]))

    def test_the_card_sends_nothing_of_ring_4(self):
        self.assert_answers(
            (opened(), [0]), *unasked(lent(0, 1)), (work(), [0]), (state(4), [0, 0, 2, 0, 0]), (wire([1]), [1]),
            (work(), [0]), (out(), [-6]), (state(4), [0, 0, 1, 1, 0]), (counts(), [0, 0, 1, 0, 0, 0]))


class TakeTest(LineTest):
    def test_there_is_none(self):
        self.assert_answers(
            (opened(), [0]), (take(), [-6]), (lend(0), [1]), (take(), [-6]), (door(4), [1]), (take(), [-6]),
            (state(4), [0, 0, 1, 0, 0]), (wire([5]), [1]), (take(), [0, 0, 1, 1]), (take(), [-6]), (take(), [-6]))

    def test_one_at_a_time_in_order(self):
        self.assert_answers(
            (opened(), [0]), *unasked(lent(40, 3, 63, 0)), (wire([1] * 257), [1]), (wire([2] * 100), [1]),
            (state(4), [0, 0, 1, 3, 0]), (take(), [0, 40, 256, 0]), (state(4), [0, 0, 1, 2, 0]),
            (take(), [0, 3, 1, 1]), (wire([3] * 2), [1]), (take(), [0, 63, 100, 1]), (take(), [0, 0, 2, 1]),
            (take(), [-6]))

    def test_only_the_first_becomes_the_machines(self):
        self.assert_answers(
            (opened(), [0]), *unasked(lent(10, 11)), (wire([1]), [1]), (wire([2]), [1]), (take(), [0, 10, 1, 1]),
            (read(10), [0, 1] + [0] * 255), (read(11), [-4]), (lend(11), [-4]), (take(), [0, 11, 1, 1]),
            (read(11), [0, 2] + [0] * 255))

    def test_what_is_done_in_other_rings_is_not_taken(self):
        self.assert_answers(
            (opened(), [0]), (post(3, 1), [1]), (door(3), [1]), (work(), [1]), (take(), [-6]), (read(1), [-4]),
            (reap(3), [1, 1, 1, 1]))

    def test_reap_takes_nothing_of_ring_4(self):
        self.assert_answers(
            (opened(), [0]), *unasked(lent(1)), (wire([9]), [1]), (reap(4), [-2]), (reap(0), [0]), (reap(1), [0]),
            (reap(2), [0]), (reap(3), [0]), (read(1), [-4]), (take(), [0, 1, 1, 1]))


class AroundTest(LineTest):
    def test_from_the_wire_through_the_machine_to_a_ring_and_back(self):
        self.assert_answers(
            (opened(1), [0]), *unasked(lent(20)), (wire([1, 2, 3]), [1]), (post(0, 20, 3, 1), [-4]),
            (take(), [0, 20, 3, 1]), (read(20), [0, 1, 2, 3] + [0] * 253), (post(2, 20, 3, 1), [1]), (lend(20), [-4]),
            (door(2), [1]), (work(), [1]), (out(), [3, 1, 2, 3]), (lend(20), [-4]), (reap(2), [1, 20, 3, 1]),
            (lend(20), [1]), (post(2, 20), [-4]), (door(4), [1]), (wire([9]), [1]), (take(), [0, 20, 1, 1]),
            (read(20), [0, 9, 2, 3] + [0] * 253), (post(3, 20, 2, 1), [1]), (door(3), [1]), (work(), [1]),
            (out(), [2, 9, 2]), (reap(3), [1, 20, 2, 1]), (read(20), [0, 9, 2, 3] + [0] * 253))

    def test_a_whole_frame_that_came_is_sent_on(self):
        data = [(7 * place) % 256 for place in range(700)]
        self.assert_answers(
            (opened(2), [0]), *unasked(lent(9, 2, 5)), (wire(data), [1]), (take(), [0, 9, 256, 0]),
            (take(), [0, 2, 256, 0]), (take(), [0, 5, 188, 1]), (post(1, 9, 256, 0), [1]), (post(1, 2, 256, 0), [2]),
            (post(1, 5, 188, 1), [3]), (door(1), [3]), (work(), [3]), (out(), [700] + data))

    def test_each_buffer_is_in_one_place(self):
        where = {0: [post(0, 0)], 1: [post(1, 1), door(1)], 2: [post(2, 2), door(2), work(1)],
                 3: [lend(3), door(4), wire([1])], 4: [lend(4), door(4)], 5: [lend(5)]}
        places = [one for buffer in (2, 1, 0, 3, 4, 5) for one in where[buffer]]
        for buffer in where:
            told = ask(opened(), *places, *[post(ring, buffer) for ring in range(4)], lend(buffer), read(buffer),
                       write(buffer, [1]), read(6))
            self.assertEqual(told[-8:], [[-4]] * 7 + [ZEROS])
