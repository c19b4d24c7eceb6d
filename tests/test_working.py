"""Point 6: work, and what a step of the card is."""

from cardringsdesk.rings import Card, Descriptor

from lines import LineTest, ask, cause, counts, door, opened, out, outside, post, read, reap, work, write


def marked(buffers):
    """Writes each buffer's own number and 1 into its first byte."""
    return [write(buffer, [buffer + 1]) for buffer in buffers]


def all_doors():
    return [door(0), door(1), door(2), door(3)]


def marks_out(told):
    """The frames among the answers, without their counts."""
    return [one[1:] for one in told]


class WorkTest(LineTest):
    def test_n_steps_and_no_more(self):
        self.assert_answers(
            (opened(), [0]), *[(post(0, buffer, 1, 0), None) for buffer in range(5)], (door(0), [5]),
            (work(1), [1]), (reap(0), [1, 0, 1, 0]), (work(2), [2]), (reap(0), [2, 1, 1, 0, 2, 1, 0]),
            (work(64), [2]), (work(64), [0]), (work(1), [0]))

    def test_the_edges_of_n(self):
        self.assert_answers((opened(), [0]), (work(1), [0]), (work(64), [0]))
        told = ask(opened(), *[post(0, buffer, 1, 0) for buffer in range(56)], door(0), work(64), reap(0))
        self.assertEqual(told[-2], [56])
        self.assertEqual(told[-1], [56] + [number for buffer in range(56) for number in (buffer, 1, 0)])

    def test_wrong_numbers(self):
        for n in outside(1, 64):
            self.assert_answers((opened(), [0]), (post(0, 0), [1]), (door(0), [1]), (work(n), [-2]), (out(), [-6]),
                                (reap(0), [0]), (work(1), [1]))


class FrameTest(LineTest):
    def test_a_frame_of_several_descriptors(self):
        self.assert_answers(
            (opened(), [0]), (write(0, [1, 2, 3]), [0]), (write(1, [4, 5, 6]), [0]), (write(2, [7, 8]), [0]),
            (post(2, 1, 3, 0), [1]), (post(2, 0, 2, 0), [2]), (post(2, 2, 4, 1), [3]), (door(2), [3]),
            (work(2), [2]), (out(), [-6]), (work(1), [1]), (out(), [9, 4, 5, 6, 1, 2, 7, 8, 0, 0]), (out(), [-6]))

    def test_the_next_frame_begins_with_nothing(self):
        self.assert_answers(
            (opened(), [0]), (write(0, [1, 2]), [0]), (write(1, [3]), [0]), (write(2, [4]), [0]),
            (post(0, 0, 2, 0), [1]), (post(0, 1, 1, 1), [2]), (post(0, 2, 1, 1), [3]), (door(0), [3]),
            (work(), [3]), (out(), [3, 1, 2, 3]), (out(), [1, 4]))

    def test_a_frame_goes_on_over_doors_and_reaps(self):
        self.assert_answers(
            (opened(1), [0]), (write(0, [1]), [0]), (post(3, 0, 1, 0), [1]), (door(3), [1]), (work(), [1]),
            (reap(3), [1, 0, 1, 0]), (write(0, [2]), [0]), (post(3, 0, 1, 0), [1]), (door(3), [1]), (work(), [1]),
            (reap(3), [1, 0, 1, 0]), (write(0, [3]), [0]), (post(3, 0, 1, 1), [1]), (door(3), [1]), (work(), [1]),
            (out(), [3, 1, 2, 3]))

    def test_each_ring_has_its_own_frame(self):
        self.assert_answers(
            (opened(), [0]), *[(one, [0]) for one in marked(range(4))],
            (post(0, 0, 1, 0), [1]), (door(0), [1]), (work(), [1]),
            (post(1, 1, 1, 0), [1]), (door(1), [1]), (work(), [1]),
            (post(0, 2, 1, 1), [2]), (door(0), [1]), (work(), [1]),
            (post(1, 3, 1, 1), [2]), (door(1), [1]), (work(), [1]),
            (out(), [2, 1, 3]), (out(), [2, 2, 4]))

    def test_what_is_more_than_4096_bytes_is_left_out(self):
        pieces = [[buffer + 1] * 256 for buffer in range(17)]
        whole = [byte for piece in pieces for byte in piece]
        for count in (15, 16, 17):
            posts = [post(0, buffer, 256, 1 if buffer == count - 1 else 0) for buffer in range(count)]
            told = ask(opened(), *[write(buffer, pieces[buffer]) for buffer in range(count)], *posts,
                       door(0), work(), out(), reap(0), out())
            most = min(256 * count, 4096)
            self.assertEqual(told[-4:-2], [[count], [most] + whole[:most]])
            self.assertEqual(told[-2][0], count)
            self.assertEqual(told[-2][-3:], [count - 1, 256, 1])
            self.assertEqual(told[-1], [-6])

    def test_a_descriptor_that_fits_in_part_joins_in_part(self):
        posts = [post(0, buffer, 256, 0) for buffer in range(15)]
        told = ask(opened(), write(15, [5] * 256), write(16, [6, 7, 8]), write(17, [9]), *posts,
                   post(0, 15, 254, 0), post(0, 16, 3, 0), post(0, 17, 1, 1), door(0), work(), out(), reap(0))
        self.assertEqual(told[-2], [4096] + [0] * 3840 + [5] * 254 + [6, 7])
        self.assertEqual(told[-1][-9:], [15, 254, 0, 16, 3, 0, 17, 1, 1])

    def test_behind_a_frame_too_long_the_next_is_whole(self):
        posts = [post(0, buffer, 256, 1 if buffer == 16 else 0) for buffer in range(17)]
        told = ask(opened(), *posts, write(20, [1, 2]), post(0, 20, 2, 1), door(0), work(), out(), out())
        self.assertEqual(told[-2:], [[4096] + [0] * 4096, [2, 1, 2]])


class TurnTest(LineTest):
    def test_round_and_round_with_frames_of_one(self):
        posts = [post(ring, 4 * turn + ring) for ring in (3, 1, 2, 0) for turn in range(3)]
        told = ask(opened(), *marked(range(12)), *posts, *all_doors(), work(), *[out()] * 12)
        self.assertEqual(marks_out(told[-12:]), [[mark] for mark in range(1, 13)])

    def test_a_frame_of_several_keeps_the_turn(self):
        posts = [post(0, 0, 1, 0), post(0, 1, 1, 0), post(0, 2, 1, 1), post(0, 3, 1, 1),
                 post(1, 4, 1, 1), post(1, 5, 1, 0), post(1, 6, 1, 1), post(3, 7, 1, 0), post(3, 8, 1, 1)]
        told = ask(opened(), *marked(range(9)), *posts, *all_doors(), work(), *[out()] * 6)
        self.assertEqual(told[-7], [9])
        self.assertEqual(marks_out(told[-6:-1]), [[1, 2, 3], [5], [8, 9], [4], [6, 7]])
        self.assertEqual(told[-1], [-6])

    def test_behind_ring_3_comes_ring_0(self):
        told = ask(opened(), *marked(range(3)), post(3, 0), door(3), work(1), post(3, 1), post(0, 2), door(3), door(0),
                   work(), out(), out(), out())
        self.assertEqual(marks_out(told[-3:]), [[1], [3], [2]])

    def test_the_next_turn_is_that_of_the_ring_behind_the_one_served(self):
        told = ask(opened(), *marked(range(4)), post(2, 0), door(2), work(1),
                   post(1, 1), post(2, 2), post(3, 3), door(1), door(2), door(3), work(), out(), out(), out(), out())
        self.assertEqual(marks_out(told[-4:]), [[1], [4], [2], [3]])

    def test_a_ring_served_out_of_turn_keeps_it_until_its_frame_ends(self):
        told = ask(opened(), *marked(range(5)), post(1, 0, 1, 0), post(1, 1, 1, 1), door(1), work(1),
                   post(0, 2), post(2, 3), door(0), door(2), work(), out(), out(), out())
        self.assertEqual(marks_out(told[-3:]), [[1, 2], [4], [3]])

    def test_a_ring_whose_frame_has_not_ended_lets_others_by_if_nothing_is_seen(self):
        told = ask(opened(), *marked(range(4)), post(0, 0, 1, 0), door(0), work(1), post(3, 1), door(3), work(1),
                   post(1, 2), post(0, 3), door(1), door(0), work(), out(), out(), out())
        self.assertEqual(marks_out(told[-3:]), [[2], [1, 4], [3]])

    def test_what_is_only_posted_has_no_turn(self):
        told = ask(opened(), *marked(range(2)), post(0, 0), post(1, 1), door(1), work(), door(0), work(), out(), out())
        self.assertEqual(marks_out(told[-2:]), [[2], [1]])

    def test_work_that_finds_nothing_leaves_the_turn(self):
        told = ask(opened(), *marked(range(3)), post(0, 0), door(0), work(64), work(64), post(0, 1), post(1, 2),
                   door(0), door(1), work(), out(), out(), out())
        self.assertEqual(marks_out(told[-3:]), [[1], [3], [2]])


class SixteenFramesTest(LineTest):
    def test_a_last_one_waits_while_16_are_out(self):
        posts = [post(0, buffer) for buffer in range(18)]
        told = ask(opened(), *marked(range(18)), *posts, door(0), work(64), work(1), out(), work(64), work(1), out(),
                   out(), work(64), reap(0))
        self.assertEqual(told[-9:-1], [[16], [0], [1, 1], [1], [0], [1, 2], [1, 3], [1]])
        self.assertEqual(told[-1], [18] + [number for buffer in range(18) for number in (buffer, 1, 1)])

    def test_the_16_are_told_in_order(self):
        posts = [post(buffer % 4, buffer) for buffer in range(17)]
        told = ask(opened(), *marked(range(17)), *posts, *all_doors(), work(), *[out()] * 17)
        self.assertEqual(told[-18:], [[16]] + [[1, mark] for mark in range(1, 17)] + [[-6]])

    def test_one_that_is_not_a_last_one_does_not_wait(self):
        posts = [post(0, buffer) for buffer in range(16)]
        told = ask(opened(), *posts, door(0), work(), write(16, [5]), write(17, [6]), post(0, 16, 1, 0),
                   post(0, 17, 1, 1), door(0), work(), work(), reap(0), out(), work(), *[out()] * 16)
        self.assertEqual(told[-21:-19], [[1], [0]])
        self.assertEqual(told[-19][0], 17)
        self.assertEqual(told[-18:], [[1, 0], [1]] + [[1, 0]] * 15 + [[2, 5, 6]])

    def test_a_ring_that_waits_is_not_passed_over(self):
        posts = [post(0, buffer) for buffer in range(16)]
        told = ask(opened(), *posts, door(0), work(), write(20, [20]), write(21, [21]), post(1, 20), post(2, 21, 1, 0),
                   door(1), door(2), work(), reap(2), read(21), out(), work(1), reap(1), reap(2), work(), reap(2))
        self.assertEqual(told[-9:], [[0], [0], [-4], [1, 0], [1], [1, 20, 1, 1], [0], [1], [1, 21, 1, 0]])

    def test_no_step_leaves_the_turn(self):
        posts = [post(3, buffer) for buffer in range(16)]
        told = ask(opened(), *posts, door(3), work(), *[write(buffer, [buffer]) for buffer in (20, 21)],
                   post(2, 20), door(2), work(), post(1, 21), door(1), out(), out(), work(), *[out()] * 16)
        self.assertEqual(told[-17], [2])
        self.assertEqual(told[-2:], [[1, 21], [1, 20]])


class CountedTest(LineTest):
    def test_done_ones_and_frames_that_went_out_are_counted(self):
        self.assert_answers(
            (opened(), [0]), *[(post(1, place, 1, place % 2), [place + 1]) for place in range(5)], (door(1), [5]),
            (counts(), [0, 0, 0, 0, 0, 0]), (cause(), [0, 0]), (work(3), [3]), (counts(), [0, 1, 0, 0, 1, 1]),
            (cause(), [0, 3]), (work(64), [2]), (counts(), [0, 2, 0, 0, 2, 1]), (cause(), [0, 2]))

    def test_frames_are_counted_modulo_2_to_the_32(self):
        card = Card(1, 1, 1)
        card.frames_sent = 2 ** 32 - 1
        card.post(3, Descriptor(0, 1, 1))
        card.rings[3].show_posted()
        self.assertEqual(card.work(1), 1)
        self.assertEqual((card.frames_sent, card.turn), (0, 0))
