"""Points 4 and 5: post and door."""

from lines import LineTest, door, opened, out, outside, post, read, reap, work, write


class PostTest(LineTest):
    def test_how_many_places_are_used(self):
        self.assert_answers(
            (opened(2), [0]), (post(0, 0), [1]), (post(0, 1), [2]), (post(3, 2), [1]), (door(0), [2]),
            (post(0, 3), [3]), (work(1), [1]), (post(0, 4), [4]), (post(0, 5), [-5]), (post(3, 5), [2]))

    def test_the_edges_of_rings_and_buffers(self):
        for ring in (0, 1, 2, 3):
            for buffer in (0, 63):
                self.assert_answers(
                    (opened(), [0]), (write(buffer, [77]), [0]), (post(ring, buffer), [1]), (door(ring), [1]),
                    (work(), [1]), (out(), [1, 77]), (reap(ring), [1, buffer, 1, 1]))

    def test_the_edges_of_how_many_bytes(self):
        data = [255 - place for place in range(256)]
        for n in (1, 2, 255, 256):
            self.assert_answers(
                (opened(), [0]), (write(0, data), [0]), (post(0, 0, n), [1]), (door(0), [1]), (work(), [1]),
                (out(), [n] + data[:n]), (reap(0), [1, 0, n, 1]))

    def test_wrong_numbers(self):
        wrong = [post(ring, 0) for ring in outside(0, 3)]
        wrong += [post(0, buffer) for buffer in outside(0, 63)]
        wrong += [post(0, 0, n) for n in outside(1, 256)]
        wrong += [post(0, 0, 1, last) for last in outside(0, 1)]
        for one in wrong:
            self.assert_answers((opened(), [0]), (one, [-2]), (read(0), [0] * 257), (read(63), [0] * 257),
                                (door(0), [0]), (door(4), [0]), (post(0, 0), [1]))

    def test_a_buffer_is_in_one_place(self):
        self.assert_answers(
            (opened(), [0]), (post(0, 7), [1]), (post(0, 7), [-4]), (post(1, 7), [-4]), (door(0), [1]),
            (post(2, 7), [-4]), (work(), [1]), (post(3, 7), [-4]), (door(1), [0]), (door(2), [0]), (door(3), [0]),
            (reap(0), [1, 7, 1, 1]), (post(3, 7), [1]))

    def test_a_ring_is_full_of_posted_seen_and_done_ones_together(self):
        self.assert_answers(
            (opened(2), [0]), (post(1, 0), [1]), (post(1, 1), [2]), (post(1, 2), [3]), (door(1), [3]),
            (work(1), [1]), (post(1, 3), [4]), (post(1, 4), [-5]), (read(4), [0] * 257), (work(), [2]),
            (post(1, 4), [-5]), (door(1), [1]), (post(1, 4), [-5]), (work(), [1]), (post(1, 4), [-5]),
            (reap(1), [4, 0, 1, 1, 1, 1, 1, 2, 1, 1, 3, 1, 1]), (post(1, 4), [1]), (door(1), [1]))

    def test_a_full_ring_leaves_the_others(self):
        self.assert_answers(
            (opened(1), [0]), (post(0, 0), [1]), (post(0, 1), [2]), (post(0, 2), [-5]), (post(1, 2), [1]),
            (post(2, 3), [1]), (post(3, 4), [1]))

    def test_which_refusal_is_told(self):
        self.assert_answers(
            (opened(1), [0]), (post(0, 0), [1]), (post(0, 1), [2]),
            (post(0, 0), [-4]), (post(0, 1, 257), [-2]), (post(0, 0, 1, 2), [-2]), (post(4, 0), [-2]),
            (post(0, 64), [-2]), (post(0, 2, 0), [-2]), (post(0, 2), [-5]))


class DoorTest(LineTest):
    def test_how_many_the_card_sees_more(self):
        for ring in (0, 1, 2, 3):
            self.assert_answers(
                (opened(), [0]), (post(ring, 0), [1]), (post(ring, 1), [2]), (door(ring), [2]), (door(ring), [0]),
                (post(ring, 2), [3]), (door(ring), [1]), (work(), [3]), (post(ring, 3), [4]), (door(ring), [1]))

    def test_ring_4_has_a_door(self):
        self.assert_answers((opened(), [0]), (post(0, 0), [1]), (post(3, 1), [1]), (door(4), [0]), (work(), [0]),
                            (door(3), [1]), (door(0), [1]))

    def test_what_is_posted_is_not_seen_before(self):
        self.assert_answers(
            (opened(), [0]), (post(0, 0), [1]), (work(), [0]), (door(1), [0]), (work(), [0]), (out(), [-6]),
            (reap(0), [0]), (door(0), [1]), (post(0, 1), [2]), (work(), [1]), (work(), [0]), (door(0), [1]),
            (work(), [1]))

    def test_behind_what_was_seen(self):
        self.assert_answers(
            (opened(), [0]), (write(0, [1]), [0]), (write(1, [2]), [0]), (write(2, [3]), [0]), (write(3, [4]), [0]),
            (post(0, 3), [1]), (post(0, 1), [2]), (door(0), [2]), (post(0, 2), [3]), (post(0, 0), [4]),
            (door(0), [2]), (work(), [4]), (out(), [1, 4]), (out(), [1, 2]), (out(), [1, 3]), (out(), [1, 1]),
            (reap(0), [4, 3, 1, 1, 1, 1, 1, 2, 1, 1, 0, 1, 1]))

    def test_wrong_numbers(self):
        for ring in outside(0, 4):
            self.assert_answers((opened(), [0]), (post(0, 0), [1]), (post(3, 1), [1]), (door(ring), [-2]),
                                (work(), [0]), (door(0), [1]), (door(3), [1]))
