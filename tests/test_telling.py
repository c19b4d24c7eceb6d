"""Points 14 and 15: state and counts."""

import unittest

from cardringsdesk.card import Desk

from lines import (LineTest, ask, counts, door, lend, lent, opened, out, outside, post, reap, sent, state, take, tick,
                   unasked, wire, wire_no_bytes, work, write)


class StateTest(LineTest):
    def test_a_new_card(self):
        self.assert_answers((opened(), [0]), *[(state(ring), [0, 0, 0, 0, 0]) for ring in range(5)])

    def test_posted_seen_and_done(self):
        for ring in (0, 1, 2, 3):
            self.assert_answers(
                (opened(3), [0]), *unasked([post(ring, buffer, 10, 0) for buffer in range(6)]),
                (state(ring), [0, 6, 0, 0, 0]), (door(ring), [6]), (state(ring), [0, 0, 6, 0, 0]), (work(3), [3]),
                (state(ring), [0, 0, 3, 3, 30]), (post(ring, 6), [7]), (state(ring), [0, 1, 3, 3, 30]),
                (reap(ring), None), (state(ring), [0, 1, 3, 0, 30]), (work(2), [2]), (state(ring), [0, 1, 1, 2, 50]),
                *[(state(other), [0, 0, 0, 0, 0]) for other in range(5) if other != ring])

    def test_ring_4(self):
        self.assert_answers(
            (opened(3), [0]), *unasked([lend(buffer) for buffer in range(6)]), (state(4), [0, 6, 0, 0, 0]),
            (door(4), [6]), (state(4), [0, 0, 6, 0, 0]), (lend(6), [7]), (wire([1] * 600), [1]),
            (state(4), [0, 1, 3, 3, 0]), (take(), [0, 0, 256, 0]), (state(4), [0, 1, 3, 2, 0]), (wire([1]), [1]),
            (state(4), [0, 1, 2, 3, 0]), *[(state(ring), [0, 0, 0, 0, 0]) for ring in range(4)])

    def test_the_rings_frame(self):
        self.assert_answers(
            (opened(), [0]), *unasked(sent(1, 0, 256, 0)), (state(1), [0, 0, 0, 1, 256]),
            *unasked(sent(1, 1, 1, 0)), (state(1), [0, 0, 0, 2, 257]), *unasked(sent(2, 2, 7, 0)),
            (state(1), [0, 0, 0, 2, 257]), (state(2), [0, 0, 0, 1, 7]), *unasked(sent(1, 3, 5, 1)),
            (state(1), [0, 0, 0, 3, 0]), (out(), None), (state(1), [0, 0, 0, 3, 0]), (state(2), [0, 0, 0, 1, 7]))

    def test_a_frame_has_4096_bytes_at_the_most(self):
        posts = [post(0, buffer, 256, 0) for buffer in range(15)]
        self.assert_answers(
            (opened(), [0]), *unasked(posts), (door(0), [15]), (work(), [15]), (state(0), [0, 0, 0, 15, 3840]),
            *unasked(sent(0, 20, 255, 0)), (state(0), [0, 0, 0, 16, 4095]), *unasked(sent(0, 21, 1, 0)),
            (state(0), [0, 0, 0, 17, 4096]), *unasked(sent(0, 22, 1, 0)), (state(0), [0, 0, 0, 18, 4096]),
            *unasked(sent(0, 23, 256, 1)), (state(0), [0, 0, 0, 19, 0]), (out(), [4096] + [0] * 4096))

    def test_wrong_numbers(self):
        for ring in outside(0, 4):
            self.assert_answers((opened(), [0]), (state(ring), [-2]), (state(0), [0, 0, 0, 0, 0]),
                                (state(4), [0, 0, 0, 0, 0]))

    def test_a_second_open_begins_anew(self):
        self.assert_answers(
            (opened(), [0]), *unasked(sent(0, 0, 9, 0)), *unasked([post(0, 1), door(0), post(0, 2)]),
            *unasked(lent(3, 4)), (wire([1]), [1]), (lend(5), [3]), (state(0), [0, 1, 1, 1, 9]),
            (state(4), [0, 1, 1, 1, 0]), (opened(), [0]), *[(state(ring), [0, 0, 0, 0, 0]) for ring in range(5)])


class CountsTest(LineTest):
    def test_a_new_card(self):
        self.assert_answers((opened(), [0]), (counts(), [0, 0, 0, 0, 0, 0]))

    def test_frames_that_went_out_and_are_out(self):
        self.assert_answers(
            (opened(), [0]), *unasked(sent(0, 0, 1, 0)), (counts(), [0, 0, 0, 0, 0, 0]), *unasked(sent(0, 1)),
            (counts(), [0, 1, 0, 0, 1, 1]), *unasked(sent(1, 2)), (counts(), [0, 2, 0, 0, 2, 2]), (out(), [2, 0, 0]),
            (counts(), [0, 2, 0, 0, 1, 2]), (out(), [1, 0]), (counts(), [0, 2, 0, 0, 0, 2]), (out(), [-6]),
            (counts(), [0, 2, 0, 0, 0, 2]))

    def test_16_are_out(self):
        posts = [post(0, buffer) for buffer in range(17)]
        self.assert_answers(
            (opened(), [0]), *unasked(posts), (door(0), [17]), (work(), [16]), (counts(), [0, 16, 0, 0, 16, 1]),
            (work(), [0]), (counts(), [0, 16, 0, 0, 16, 1]), (out(), [1, 0]), (counts(), [0, 16, 0, 0, 15, 1]),
            (work(), [1]), (counts(), [0, 17, 0, 0, 16, 1]))

    def test_frames_that_came_and_were_dropped(self):
        self.assert_answers(
            (opened(), [0]), (wire([1]), [0]), (counts(), [0, 0, 0, 1, 0, 0]), *unasked(lent(0, 1, 2, 3, 4)),
            (wire([1] * 1024), [1]), (counts(), [0, 0, 1, 1, 0, 0]), (wire([1] * 257), [0]),
            (counts(), [0, 0, 1, 2, 0, 0]), (wire([1]), [1]), (counts(), [0, 0, 2, 2, 0, 0]), (take(), None),
            (wire_no_bytes(0), [-2]), (wire_no_bytes(1025), [-2]), (counts(), [0, 0, 2, 2, 0, 0]))

    def test_whose_turn_it_is(self):
        self.assert_answers(
            (opened(), [0]), *unasked(sent(2, 0, 1, 0)), (counts(), [0, 0, 0, 0, 0, 2]), *unasked(sent(2, 1)),
            (counts(), [0, 1, 0, 0, 1, 3]), (work(), [0]), (counts(), [0, 1, 0, 0, 1, 3]), *unasked(sent(3, 2)),
            (counts(), [0, 2, 0, 0, 2, 0]), *unasked(sent(3, 3, 1, 0)), (counts(), [0, 2, 0, 0, 2, 3]),
            *unasked(sent(1, 4)), (counts(), [0, 3, 0, 0, 3, 2]), (post(0, 5), [1]), (door(0), [1]),
            (counts(), [0, 3, 0, 0, 3, 2]))

    def test_what_is_lent_and_comes_has_no_turn(self):
        self.assert_answers(
            (opened(), [0]), *unasked(sent(0, 0)), *unasked(lent(1, 2)), (wire([1] * 257), [1]), (take(), None),
            (tick(), None), (counts(), [0, 1, 1, 0, 1, 1]))

    def test_a_second_open_begins_anew(self):
        self.assert_answers(
            (opened(), [0]), *unasked(sent(1, 0)), *unasked(lent(1)), (wire([1]), [1]), (wire([1]), [0]),
            (counts(), [0, 1, 1, 1, 1, 2]), (opened(7), [-2]), (counts(), [0, 1, 1, 1, 1, 2]), (opened(), [0]),
            (counts(), [0, 0, 0, 0, 0, 0]))

    def test_telling_changes_nothing(self):
        calls = [opened(2, 3, 4), write(0, [1, 2]), *sent(2, 0, 2, 0), *lent(1, 2), wire([7]), tick(2), post(3, 3),
                 door(3), work(), out(), take(), tick(1), tick(1), reap(2), reap(3), [13, 0, 0]]
        plain = ask(*calls)
        for place in range(1, len(calls) + 1):
            asked = [state(0), state(1), state(2), state(3), state(4), counts()]
            told = ask(*calls[:place], *asked, *asked, *calls[place:])
            self.assertEqual(told[:place] + told[place + 12:], plain)
            self.assertEqual(told[place:place + 6], told[place + 6:place + 12])


class ModulusTest(unittest.TestCase):
    def test_came_and_dropped_modulo_2_to_the_32(self):
        # No line is long enough to count so far.
        desk = Desk()
        desk.answer(1, [6, 64, 1000])
        desk.card.frames_come = 2 ** 32 - 1
        desk.card.frames_dropped = 2 ** 32 - 2
        for buffer in range(2):
            desk.answer(9, [buffer])
        self.assertEqual(desk.answer(10, [1, 5]), [0])
        self.assertEqual(desk.answer(15, []), [0, 0, 2 ** 32 - 1, 2 ** 32 - 1, 0, 0])
        self.assertEqual(desk.answer(10, [1, 5]), [0])
        self.assertEqual(desk.answer(15, []), [0, 0, 2 ** 32 - 1, 0, 0, 0])
        desk.answer(5, [4])
        self.assertEqual(desk.answer(10, [1, 5]), [1])
        self.assertEqual(desk.answer(10, [1, 5]), [1])
        self.assertEqual(desk.answer(15, []), [0, 0, 1, 0, 0, 0])
