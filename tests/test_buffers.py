"""Points 2 and 3: write and read."""

from lines import LineTest, ask, door, opened, outside, post, read, reap, work, write, write_no_bytes

WHOLE = [(7 * place + 3) % 256 for place in range(256)]


class WriteTest(LineTest):
    def test_the_first_bytes_are_these_and_the_rest_stays(self):
        self.assert_answers(
            (opened(), [0]), (write(10, WHOLE), [0]), (read(10), [0] + WHOLE),
            (write(10, [1, 2, 3]), [0]), (read(10), [0, 1, 2, 3] + WHOLE[3:]))

    def test_how_many_bytes(self):
        for n in (0, 1, 2, 255, 256):
            data = [200 - place % 100 for place in range(n)]
            self.assert_answers(
                (opened(), [0]), (write(1, WHOLE), [0]), (write(1, data), [0]), (read(1), [0] + data + WHOLE[n:]))

    def test_the_edges_of_a_byte(self):
        self.assert_answers((opened(), [0]), (write(0, [0, 255, 0, 255]), [0]),
                            (read(0), [0, 0, 255, 0, 255] + [0] * 252))

    def test_no_other_buffer_is_touched(self):
        for buffer in (0, 1, 31, 62, 63):
            near = [other for other in range(64) if other != buffer and abs(other - buffer) < 20]
            told = ask(opened(), write(buffer, WHOLE), read(buffer), *[read(other) for other in near])
            self.assertEqual(told[1:3], [[0], [0] + WHOLE])
            self.assertEqual(told[3:], [[0] * 257] * len(near))

    def test_wrong_numbers(self):
        for buffer in outside(0, 63):
            self.assert_answers((opened(), [0]), (write(buffer, [1, 2]), [-2]), (write(buffer, []), [-2]),
                                (read(0), [0] * 257), (read(63), [0] * 257))
        for n in outside(0, 256):
            self.assert_answers((opened(), [0]), (write(3, [4]), [0]), (write_no_bytes(3, n), [-2]),
                                (write_no_bytes(64, n), [-2]), (read(3), [0, 4] + [0] * 255))

    def test_not_the_machines_while_in_a_ring(self):
        self.assert_answers(
            (opened(), [0]), (write(8, [1, 2]), [0]), (post(1, 8, 2, 0), [1]), (write(8, [9]), [-4]),
            (door(1), [1]), (write(8, [9]), [-4]), (write(8, []), [-4]), (work(), [1]), (write(8, [9]), [-4]),
            (reap(1), [1, 8, 2, 0]), (read(8), [0, 1, 2] + [0] * 254), (write(8, [9]), [0]),
            (read(8), [0, 9, 2] + [0] * 254))

    def test_a_wrong_number_is_told_before_a_buffer_in_a_ring(self):
        self.assert_answers((opened(), [0]), (post(0, 8), [1]), (write_no_bytes(8, 257), [-2]),
                            (write_no_bytes(8, -1), [-2]))


class ReadTest(LineTest):
    def test_the_edges(self):
        for buffer in (0, 63):
            self.assert_answers((opened(), [0]), (read(buffer), [0] * 257), (write(buffer, WHOLE), [0]),
                                (read(buffer), [0] + WHOLE), (read(buffer), [0] + WHOLE))

    def test_wrong_numbers(self):
        for buffer in outside(0, 63):
            self.assert_answers((opened(), [0]), (read(buffer), [-2]))

    def test_not_the_machines_while_in_a_ring(self):
        for ring in (0, 1, 2, 3):
            self.assert_answers(
                (opened(), [0]), (post(ring, 63), [1]), (read(63), [-4]), (door(ring), [1]), (read(63), [-4]),
                (work(), [1]), (read(63), [-4]), (reap(ring), [1, 63, 1, 1]), (read(63), [0] * 257))

    def test_others_stay_the_machines(self):
        self.assert_answers((opened(), [0]), (post(0, 30), [1]), (read(29), [0] * 257), (read(31), [0] * 257))
