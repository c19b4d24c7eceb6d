"""Points 7 and 8: reap and out."""

from lines import LineTest, door, opened, out, outside, post, read, reap, work, write


class ReapTest(LineTest):
    def test_all_done_ones_in_order(self):
        self.assert_answers(
            (opened(), [0]), (reap(0), [0]), (post(0, 9, 256, 0), [1]), (post(0, 3, 1, 1), [2]),
            (post(0, 63, 17, 0), [3]), (post(0, 0, 2, 1), [4]), (reap(0), [0]), (door(0), [4]), (reap(0), [0]),
            (work(3), [3]), (reap(0), [3, 9, 256, 0, 3, 1, 1, 63, 17, 0]), (reap(0), [0]), (work(3), [1]),
            (reap(0), [1, 0, 2, 1]), (reap(0), [0]))

    def test_only_of_its_ring(self):
        for ring in (0, 1, 2, 3):
            others = [(reap(other), [0]) for other in range(4) if other != ring]
            self.assert_answers((opened(), [0]), (post(ring, 5, 6, 1), [1]), (door(ring), [1]), (work(), [1]),
                                *others, (reap(ring), [1, 5, 6, 1]))

    def test_places_and_buffers_are_free_again_and_the_bytes_stay(self):
        self.assert_answers(
            (opened(1), [0]), (write(5, [1, 2, 3]), [0]), (post(2, 5, 2, 1), [1]), (post(2, 6, 1, 1), [2]),
            (door(2), [2]), (work(1), [1]), (read(5), [-4]), (post(2, 7), [-5]), (reap(2), [1, 5, 2, 1]),
            (read(5), [0, 1, 2, 3] + [0] * 253), (read(6), [-4]), (post(2, 5, 3, 1), [2]), (read(5), [-4]),
            (door(2), [1]), (work(), [2]), (out(), [2, 1, 2]), (out(), [1, 0]), (out(), [3, 1, 2, 3]))

    def test_the_frame_that_went_out_stays_as_it_was(self):
        self.assert_answers(
            (opened(), [0]), (write(5, [1, 2, 3]), [0]), (post(2, 5, 3, 1), [1]), (door(2), [1]), (work(), [1]),
            (reap(2), [1, 5, 3, 1]), (write(5, [7, 7, 7]), [0]), (out(), [3, 1, 2, 3]),
            (read(5), [0, 7, 7, 7] + [0] * 253))

    def test_wrong_numbers(self):
        for ring in outside(0, 3):
            self.assert_answers((opened(), [0]), (post(0, 0), [1]), (post(3, 1), [1]), (door(0), [1]), (door(3), [1]),
                                (work(), [2]), (reap(ring), [-2]), (read(0), [-4]), (read(1), [-4]),
                                (reap(0), [1, 0, 1, 1]), (reap(3), [1, 1, 1, 1]))


class OutTest(LineTest):
    def test_the_first_one_is_taken(self):
        self.assert_answers(
            (opened(), [0]), (write(0, [4, 5]), [0]), (write(1, [6]), [0]), (post(0, 0, 2), [1]), (post(0, 1, 1), [2]),
            (door(0), [2]), (out(), [-6]), (work(1), [1]), (out(), [2, 4, 5]), (out(), [-6]), (work(1), [1]),
            (out(), [1, 6]), (out(), [-6]), (out(), [-6]))

    def test_frames_of_all_rings_in_the_order_they_went(self):
        self.assert_answers(
            (opened(), [0]), (write(0, [1]), [0]), (write(1, [2]), [0]), (write(2, [3]), [0]),
            (post(3, 0), [1]), (door(3), [1]), (work(), [1]), (post(1, 1), [1]), (door(1), [1]), (work(), [1]),
            (post(0, 2), [1]), (door(0), [1]), (work(), [1]), (out(), [1, 1]), (out(), [1, 2]), (out(), [1, 3]))

    def test_buffers_stay_in_the_ring(self):
        self.assert_answers((opened(), [0]), (post(0, 0), [1]), (door(0), [1]), (work(), [1]), (out(), [1, 0]),
                            (read(0), [-4]), (post(0, 1), [2]), (reap(0), [1, 0, 1, 1]))

    def test_a_frame_that_has_not_ended_is_not_out(self):
        self.assert_answers((opened(), [0]), (post(0, 0, 9, 0), [1]), (door(0), [1]), (work(), [1]), (out(), [-6]),
                            (reap(0), [1, 0, 9, 0]), (out(), [-6]))
