"""The calls on a card, taken from one list of whole numbers and answered in another."""

from cardringsdesk.rings import Card, Descriptor

WRONG_NUMBER = -2
NOT_WITH_MACHINE = -4
RING_FULL = -5
NONE_THERE = -6
NO_CARD = -7

OPENING = 1

# The least and the most of each number of a call, in order; the bytes of a write are always bytes.
RANGES = {
    1: ((1, 6), (1, 64), (1, 1000)),
    2: ((0, 63), (0, 256)),
    3: ((0, 63),),
    4: ((0, 3), (0, 63), (1, 256), (0, 1)),
    5: ((0, 4),),
    6: ((1, 64),),
    7: ((0, 3),),
    8: (),
}


def are_as_told(call, numbers):
    ranges = RANGES[call]
    for place in range(len(ranges)):
        least = ranges[place][0]
        most = ranges[place][1]
        if numbers[place] < least or numbers[place] > most:
            return False
    return True


def answer_write(card, numbers):
    buffer = numbers[0]
    if not card.with_machine[buffer]:
        return [NOT_WITH_MACHINE]
    length = numbers[1]
    card.write(buffer, numbers[2:2 + length])
    return [0]


def answer_read(card, numbers):
    buffer = numbers[0]
    if not card.with_machine[buffer]:
        return [NOT_WITH_MACHINE]
    return [0] + card.buffers[buffer]


def answer_post(card, numbers):
    ring = numbers[0]
    buffer = numbers[1]
    if not card.with_machine[buffer]:
        return [NOT_WITH_MACHINE]
    if card.rings[ring].is_full():
        return [RING_FULL]
    card.post(ring, Descriptor(buffer, numbers[2], numbers[3]))
    return [card.rings[ring].used()]


def answer_door(card, numbers):
    return [card.rings[numbers[0]].show_posted()]


def answer_work(card, numbers):
    return [card.work(numbers[0])]


def answer_reap(card, numbers):
    taken = card.reap(numbers[0])
    told = [len(taken)]
    for descriptor in taken:
        told.extend([descriptor.buffer, descriptor.length, descriptor.last])
    return told


def answer_out(card, numbers):
    if len(card.frames_out) == 0:
        return [NONE_THERE]
    frame = card.frames_out.pop(0)
    return [len(frame)] + frame


CALLS_ON_CARD = {
    2: answer_write,
    3: answer_read,
    4: answer_post,
    5: answer_door,
    6: answer_work,
    7: answer_reap,
    8: answer_out,
}


class Desk:
    def __init__(self):
        self.card = None

    def answer(self, call, numbers):
        if self.card is None and call != OPENING:
            return [NO_CARD]
        if not are_as_told(call, numbers):
            return [WRONG_NUMBER]
        if call == OPENING:
            self.card = Card(numbers[0], numbers[1], numbers[2])
            return [0]
        return CALLS_ON_CARD[call](self.card, numbers)


def answers(calls):
    desk = Desk()
    told = []
    place = 0
    while place < len(calls):
        begin = place + 2
        end = begin + calls[place + 1]
        answer = desk.answer(calls[place], calls[begin:end])
        told.append(len(answer))
        told.extend(answer)
        # Behind its numbers a call has how many lists it has, and no call has any.
        place = end + 1
    return told
