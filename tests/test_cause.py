"""Points 12 and 13: tick and cause."""

from cardringsdesk.card import Desk

from lines import (LineTest, ask, cause, counts, door, lend, lent, opened, out, outside, post, read, reap, sent, state,
                   take, tick, unasked, wire, wire_no_bytes, work)


def posted(count, ring=0):
    """So many descriptors, posted and shown, none of which ends a frame."""
    return [post(ring, buffer, 1, 0) for buffer in range(count)] + [door(ring)]


class ManyTest(LineTest):
    def test_descriptors(self):
        self.assert_answers((opened(6, 1), [0]), *unasked(posted(1)), (tick(), [0]), (work(1), [1]), (tick(), [1]),
                            (cause(), [1, 1]))
        for many in (2, 3, 7, 50):
            told = ask(opened(6, many), *posted(many), work(many - 1), tick(), work(1), tick(), cause())
            self.assertEqual(told[-5:], [[many - 1], [0], [1], [1], [1, many]])

    def test_one_short_in_all(self):
        for many in (2, 3, 64):
            told = ask(opened(6, many), *posted(min(many - 1, 50)), work(), tick(), cause())
            self.assertEqual(told[-2:], [[0], [0, min(many - 1, 50)]])

    def test_pieces_are_counted_and_not_frames(self):
        for n, pieces in ((1, 1), (256, 1), (257, 2), (512, 2), (513, 3), (768, 3), (769, 4), (1024, 4)):
            calls = [*lent(1, 2, 3, 4, 5), wire([1] * n), tick(), cause()]
            self.assertEqual(ask(opened(6, pieces), *calls)[-2:], [[1], [1, pieces]])
            self.assertEqual(ask(opened(6, pieces + 1), *calls)[-2:], [[0], [0, pieces]])

    def test_both_together(self):
        for many, there in ((4, 1), (5, 1), (6, 0)):
            self.assert_answers(
                (opened(6, many), [0]), *unasked(lent(10, 11, 12)), *unasked(posted(2)), (wire([1] * 600), [1]),
                (tick(), [0]), (work(1), [1]), (tick(), [1 if many == 4 else 0]), (work(1), [1]), (tick(), [there]),
                (cause(), [there, 5]))

    def test_descriptors_of_all_rings(self):
        self.assert_answers(
            (opened(6, 4), [0]), *unasked(sent(0, 0)), *unasked(sent(1, 1)), *unasked(sent(2, 2)), (tick(), [0]),
            *unasked(sent(3, 3)), (tick(), [1]), (cause(), [1, 4]))

    def test_many_64(self):
        # A line is too short to have 64 done: it has at most 60 calls.
        desk = Desk()
        desk.answer(1, [6, 64, 1000])
        for buffer in range(64):
            desk.answer(4, [buffer % 4, buffer, 1, 0])
        for ring in range(4):
            desk.answer(5, [ring])
        self.assertEqual(desk.answer(6, [63]), [63])
        self.assertEqual(desk.answer(12, [1]), [0])
        self.assertEqual(desk.answer(6, [1]), [1])
        self.assertEqual(desk.answer(12, [1]), [1])
        self.assertEqual(desk.answer(13, []), [1, 64])
        self.assertEqual(desk.answer(13, []), [0, 0])

    def test_more_than_many(self):
        self.assert_answers((opened(6, 2), [0]), *unasked(posted(5)), (work(), [5]), (cause(), [1, 5]),
                            (cause(), [0, 0]))

    def test_without_a_tick(self):
        self.assert_answers((opened(6, 2), [0]), *unasked(posted(2)), (work(1), [1]), (work(1), [1]), (cause(), [1, 2]))

    def test_what_is_not_done_is_not_counted(self):
        self.assert_answers(
            (opened(6, 1, 1), [0]), (post(0, 0), [1]), (tick(), [0]), (door(0), [1]), (tick(), [0]), (lend(1), [1]),
            (tick(), [0]), (door(4), [1]), (tick(), [0]), (wire([1] * 257), [0]), (tick(), [0]),
            (wire_no_bytes(0), [-2]), (tick(), [0]), (work(0), [-2]), (tick(), [0]), (out(), [-6]), (take(), [-6]),
            (reap(0), [0]), (tick(1000), [0]), (cause(), [0, 0]))

    def test_taking_back_takes_nothing_from_the_count(self):
        self.assert_answers(
            (opened(6, 3), [0]), *unasked(sent(0, 0)), (reap(0), [1, 0, 1, 1]), (out(), [1, 0]), *unasked(lent(1)),
            (wire([1]), [1]), (take(), [0, 1, 1, 1]), (tick(), [0]), *unasked(sent(0, 2)), (tick(), [1]),
            (cause(), [1, 3]))


class LateTest(LineTest):
    def test_in_one_tick(self):
        for late in (1, 2, 999, 1000):
            self.assert_answers((opened(6, 64, late), [0]), *unasked(sent(0, 0)), (tick(late), [1]), (cause(), [1, 1]))
            if late > 1:
                self.assert_answers((opened(6, 64, late), [0]), *unasked(sent(0, 0)), (tick(late - 1), [0]),
                                    (cause(), [0, 1]))

    def test_more_than_late_in_one(self):
        self.assert_answers((opened(6, 64, 999), [0]), *unasked(sent(0, 0)), (tick(1000), [1]), (cause(), [1, 1]))

    def test_in_several(self):
        self.assert_answers(
            (opened(6, 64, 10), [0]), *unasked(sent(0, 0)), (tick(4), [0]), (tick(5), [0]), (tick(1), [1]),
            (cause(), [1, 1]))
        self.assert_answers(
            (opened(6, 64, 1000), [0]), *unasked(lent(0)), (wire([1]), [1]), (tick(998), [0]), (tick(1), [0]),
            (tick(1), [1]), (tick(1), [1]), (cause(), [1, 1]))

    def test_one_short_in_several(self):
        self.assert_answers((opened(6, 64, 10), [0]), *unasked(sent(0, 0)), (tick(4), [0]), (tick(5), [0]),
                            (cause(), [0, 1]))

    def test_what_is_done_between_does_not_begin_the_ticks_anew(self):
        self.assert_answers(
            (opened(6, 64, 10), [0]), *unasked(sent(0, 0)), (tick(6), [0]), *unasked(sent(1, 1)), (tick(3), [0]),
            *unasked(lent(2)), (wire([1]), [1]), (tick(1), [1]), (cause(), [1, 3]))

    def test_taking_back_does_not_begin_the_ticks_anew(self):
        self.assert_answers(
            (opened(6, 64, 10), [0]), *unasked(sent(0, 0)), (tick(6), [0]), (reap(0), [1, 0, 1, 1]), (out(), [1, 0]),
            (tick(3), [0]), (tick(1), [1]), (cause(), [1, 1]))

    def test_ticks_while_nothing_was_done_do_not_count(self):
        self.assert_answers(
            (opened(6, 64, 10), [0]), (tick(1000), [0]), (tick(9), [0]), (cause(), [0, 0]), (tick(9), [0]),
            *unasked(sent(0, 0)), (tick(9), [0]), (tick(1), [1]), (cause(), [1, 1]))

    def test_ticks_do_not_count_backwards(self):
        self.assert_answers((opened(6, 64, 5), [0]), (tick(1000), [0]), *unasked(sent(0, 0)), (cause(), [0, 1]))

    def test_a_posted_one_does_not_wait(self):
        self.assert_answers(
            (opened(6, 64, 5), [0]), (post(0, 0), [1]), (tick(5), [0]), (door(0), [1]), (tick(5), [0]), (work(), [1]),
            (tick(4), [0]), (tick(1), [1]))

    def test_the_edges_of_n(self):
        self.assert_answers((opened(6, 64, 1), [0]), (tick(1), [0]), (tick(1000), [0]), *unasked(sent(0, 0)),
                            (tick(1), [1]), (tick(1000), [1]))

    def test_wrong_numbers(self):
        for n in outside(1, 1000):
            self.assert_answers(
                (opened(6, 64, 2), [0]), *unasked(sent(0, 0)), (tick(n), [-2]), (tick(n), [-2]), (tick(1), [0]),
                (tick(n), [-2]), (tick(1), [1]), (tick(n), [-2]), (cause(), [1, 1]))


class CauseTest(LineTest):
    def test_without_anything(self):
        self.assert_answers((opened(), [0]), (cause(), [0, 0]), (cause(), [0, 0]))

    def test_it_stays_until_it_is_asked_for(self):
        self.assert_answers(
            (opened(6, 1), [0]), *unasked(sent(0, 0)), (tick(), [1]), (reap(0), [1, 0, 1, 1]), (out(), [1, 0]),
            (tick(), [1]), (read(0), None), (state(0), None), (counts(), None), (work(), [0]), (wire([1]), [0]),
            (tick(1000), [1]), (cause(), [1, 1]), (tick(), [0]), (cause(), [0, 0]))
        self.assert_answers(
            (opened(6, 64, 3), [0]), *unasked(lent(0)), (wire([1]), [1]), (tick(3), [1]), (take(), [0, 0, 1, 1]),
            (tick(1), [1]), (opened(0), [-2]), (tick(1001), [-2]), (tick(1), [1]), (cause(), [1, 1]), (tick(1), [0]))

    def test_behind_it_descriptors_and_pieces_are_counted_anew(self):
        self.assert_answers(
            (opened(6, 3), [0]), *unasked(posted(6)), *unasked(lent(20, 21)), (work(2), [2]), (wire([1]), [1]),
            (cause(), [1, 3]), (work(2), [2]), (tick(), [0]), (wire([1]), [1]), (tick(), [1]), (cause(), [1, 3]),
            (work(2), [2]), (cause(), [0, 2]))

    def test_behind_it_ticks_are_counted_anew(self):
        self.assert_answers(
            (opened(6, 64, 10), [0]), *unasked(sent(0, 0)), (tick(10), [1]), (cause(), [1, 1]), (tick(10), [0]),
            *unasked(sent(0, 1)), (tick(9), [0]), (tick(1), [1]))

    def test_asked_for_where_there_is_none_it_begins_all_anew_too(self):
        self.assert_answers(
            (opened(6, 3, 10), [0]), *unasked(sent(0, 0)), *unasked(sent(0, 1)), (tick(9), [0]), (cause(), [0, 2]),
            (tick(1), [0]), *unasked(sent(0, 2)), (tick(9), [0]), *unasked(sent(0, 3)), (cause(), [0, 2]))

    def test_done_ones_not_taken_back_do_not_wait_behind_it(self):
        self.assert_answers(
            (opened(6, 1, 1), [0]), *unasked(sent(0, 0)), *unasked(lent(1)), (wire([1]), [1]), (cause(), [1, 2]),
            (tick(1000), [0]), (state(0), [0, 0, 0, 1, 0]), (state(4), [0, 0, 0, 1, 0]), (cause(), [0, 0]))

    def test_it_changes_nothing_else(self):
        calls = [opened(2, 1, 1), *sent(2, 0, 5, 0), *lent(1, 2), wire([7]), post(3, 3), counts(), state(2), state(3),
                 state(4), door(3), work(), out(), take(), read(1), counts(), reap(2), reap(3), state(2)]
        plain = ask(*calls)
        for place in range(1, len(calls) + 1):
            told = ask(*calls[:place], cause(), cause(), *calls[place:])
            self.assertEqual(told[:place] + told[place + 2:], plain)
            self.assertEqual(told[place + 1], [0, 0])

    def test_a_second_open_begins_anew(self):
        before = [opened(6, 2, 5), *sent(0, 0), *sent(0, 1), tick(5)]
        self.assert_answers(*unasked(before), (opened(6, 2, 5), [0]), (tick(1), [0]), (cause(), [0, 0]))
        self.assert_answers(*unasked(before), (opened(6, 2, 5), [0]), *unasked(sent(0, 0)), (tick(4), [0]),
                            (tick(1), [1]), (cause(), [1, 1]))
        self.assert_answers(*unasked(before), (opened(6, 3, 9), [0]), *unasked(sent(0, 0)), *unasked(sent(0, 1)),
                            (tick(8), [0]), (tick(1), [1]), (cause(), [1, 2]))
        self.assert_answers((opened(6, 64, 10), [0]), *unasked(sent(0, 0)), (tick(9), [0]), (opened(6, 64, 10), [0]),
                            *unasked(sent(0, 0)), (tick(1), [0]), (tick(9), [1]))

    def test_a_refused_open_leaves_it(self):
        for wrong in (opened(0), opened(6, 65), opened(6, 1, 0)):
            self.assert_answers(
                (opened(6, 2, 10), [0]), *unasked(sent(0, 0)), (tick(9), [0]), (wrong, [-2]), (tick(1), [1]),
                (cause(), [1, 1]), *unasked(sent(0, 1)), *unasked(sent(0, 2)), (tick(1), [1]))
