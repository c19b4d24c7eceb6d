"""The calls on a card, taken from one list of whole numbers and answered in another."""

from cardringsdesk.rings import LENDING_RING, Card, Descriptor

WRONG_NUMBER = -2
NOT_WITH_MACHINE = -4
RING_FULL = -5
NONE_THERE = -6
NO_CARD = -7

OPENING = 1

# The least and the most of each number of a call, in order; the bytes of a write or a wire are always bytes.
RANGES = {
    1: ((1, 6), (1, 64), (1, 1000)),
    2: ((0, 63), (0, 256)),
    3: ((0, 63),),
    4: ((0, 3), (0, 63), (1, 256), (0, 1)),
    5: ((0, 4),),
    6: ((1, 64),),
    7: ((0, 3),),
    8: (),
    9: ((0, 63),),
    10: ((1, 1024),),
    11: (),
    12: ((1, 1000),),
    13: (),
    14: ((0, 4),),
    15: (),
}


def are_as_told(call, numbers):
    ranges = RANGES[call]
    for place in range(len(ranges)):
        least = ranges[place][0]
        most = ranges[place][1]
        if numbers[place] < least or numbers[place] > most:
            return False
    return True


def yes_or_no(truth):
    return 1 if truth else 0


def told_of(descriptor):
    return [descriptor.buffer, descriptor.length, descriptor.last]


def answer_write(card, numbers):
    buffer = numbers[0]
    if not card.with_machine[buffer]:
        return [NOT_WITH_MACHINE]
    length = numbers[1]
    card.write(buffer, numbers[2:2 + length])
    return [0]


def answer_read(card, numbers):
    buffer = numbers[0]
    if not card.with_machine[buffer]:
        return [NOT_WITH_MACHINE]
    return [0] + card.buffers[buffer]


def answer_posted(card, ring, descriptor):
    if not card.with_machine[descriptor.buffer]:
        return [NOT_WITH_MACHINE]
    if card.rings[ring].is_full():
        return [RING_FULL]
    card.post(ring, descriptor)
    return [card.rings[ring].used()]


def answer_post(card, numbers):
    return answer_posted(card, numbers[0], Descriptor(numbers[1], numbers[2], numbers[3]))


def answer_door(card, numbers):
    return [card.rings[numbers[0]].show_posted()]


def answer_work(card, numbers):
    return [card.work(numbers[0])]


def answer_reap(card, numbers):
    taken = card.reap(numbers[0])
    told = [len(taken)]
    for descriptor in taken:
        told.extend(told_of(descriptor))
    return told


def answer_out(card, numbers):
    if len(card.frames_out) == 0:
        return [NONE_THERE]
    frame = card.frames_out.pop(0)
    return [len(frame)] + frame


def answer_lend(card, numbers):
    # How many bytes come into it, and whether they are a last piece, is known when it is filled.
    return answer_posted(card, LENDING_RING, Descriptor(numbers[0], 0, 0))


def answer_wire(card, numbers):
    length = numbers[0]
    return [yes_or_no(card.receive(numbers[1:1 + length]))]


def answer_take(card, numbers):
    if len(card.rings[LENDING_RING].done) == 0:
        return [NONE_THERE]
    return [0] + told_of(card.take_lent())


def answer_tick(card, numbers):
    card.cause.pass_ticks(numbers[0])
    return [yes_or_no(card.cause.is_given())]


def answer_cause(card, numbers):
    told = [yes_or_no(card.cause.is_given()), card.cause.done_since]
    card.cause.begin_anew()
    return told


def answer_state(card, numbers):
    ring = card.rings[numbers[0]]
    return [0, len(ring.posted), len(ring.seen), len(ring.done), len(ring.frame)]


def answer_counts(card, numbers):
    return [0, card.frames_sent, card.frames_come, card.frames_dropped, len(card.frames_out), card.turn]


CALLS_ON_CARD = {
    2: answer_write,
    3: answer_read,
    4: answer_post,
    5: answer_door,
    6: answer_work,
    7: answer_reap,
    8: answer_out,
    9: answer_lend,
    10: answer_wire,
    11: answer_take,
    12: answer_tick,
    13: answer_cause,
    14: answer_state,
    15: answer_counts,
}


class Desk:
    def __init__(self):
        self.card = None

    def answer(self, call, numbers):
        if self.card is None and call != OPENING:
            return [NO_CARD]
        if not are_as_told(call, numbers):
            return [WRONG_NUMBER]
        if call == OPENING:
            self.card = Card(numbers[0], numbers[1], numbers[2])
            return [0]
        return CALLS_ON_CARD[call](self.card, numbers)


def answers(calls):
    desk = Desk()
    told = []
    place = 0
    while place < len(calls):
        begin = place + 2
        end = begin + calls[place + 1]
        answer = desk.answer(calls[place], calls[begin:end])
        told.append(len(answer))
        told.extend(answer)
        # Behind its numbers a call has how many lists it has, and no call has any.
        place = end + 1
    return told
