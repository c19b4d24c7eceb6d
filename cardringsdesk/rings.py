"""The card: its buffers, its rings, a step of its work, and what comes from the wire."""

from cardringsdesk.cause import Cause

BUFFERS = 64
BUFFER_BYTES = 256
SENDING_RINGS = 4
LENDING_RING = 4
RINGS = 5
FRAME_BYTES = 4096
FRAMES_OUT = 16
COUNT_MODULUS = 4294967296
NO_RING = -1


def one_more(count):
    return (count + 1) % COUNT_MODULUS


def in_pieces(data):
    return [data[begin:begin + BUFFER_BYTES] for begin in range(0, len(data), BUFFER_BYTES)]


class Descriptor:
    def __init__(self, buffer, length, last):
        self.buffer = buffer
        self.length = length
        self.last = last


class Ring:
    def __init__(self, places):
        self.places = places
        self.posted = []
        self.seen = []
        self.done = []
        self.frame = []

    def used(self):
        return len(self.posted) + len(self.seen) + len(self.done)

    def is_full(self):
        return self.used() == self.places

    def show_posted(self):
        shown = len(self.posted)
        self.seen.extend(self.posted)
        self.posted = []
        return shown

    def mark_first_done(self):
        self.done.append(self.seen.pop(0))

    def take_done(self):
        taken = self.done
        self.done = []
        return taken

    def take_first_done(self):
        return self.done.pop(0)

    def join_frame(self, data):
        room = FRAME_BYTES - len(self.frame)
        self.frame.extend(data[:room])

    def end_frame(self):
        ended = self.frame
        self.frame = []
        return ended


class Card:
    def __init__(self, k, many, late):
        self.cause = Cause(many, late)
        self.buffers = [[0] * BUFFER_BYTES for buffer in range(BUFFERS)]
        self.with_machine = [True for buffer in range(BUFFERS)]
        self.rings = [Ring(1 << k) for ring in range(RINGS)]
        self.turn = 0
        self.frames_out = []
        self.frames_sent = 0
        self.frames_come = 0
        self.frames_dropped = 0

    def write(self, buffer, data):
        self.buffers[buffer] = data + self.buffers[buffer][len(data):]

    def post(self, ring, descriptor):
        self.with_machine[descriptor.buffer] = False
        self.rings[ring].posted.append(descriptor)

    def reap(self, ring):
        taken = self.rings[ring].take_done()
        for descriptor in taken:
            self.with_machine[descriptor.buffer] = True
        return taken

    def take_lent(self):
        descriptor = self.rings[LENDING_RING].take_first_done()
        self.with_machine[descriptor.buffer] = True
        return descriptor

    def work(self, most):
        steps = 0
        while steps < most and self.step():
            steps += 1
        return steps

    def step(self):
        ring = self.ring_to_serve()
        if ring == NO_RING:
            return False
        descriptor = self.rings[ring].seen[0]
        # A ring that must wait is not stepped over: else its frame would be passed by others.
        if descriptor.last == 1 and len(self.frames_out) == FRAMES_OUT:
            return False
        self.send_first(ring, descriptor)
        return True

    def ring_to_serve(self):
        for ahead in range(SENDING_RINGS):
            ring = (self.turn + ahead) % SENDING_RINGS
            if len(self.rings[ring].seen) > 0:
                return ring
        return NO_RING

    def send_first(self, ring, descriptor):
        served = self.rings[ring]
        served.join_frame(self.buffers[descriptor.buffer][:descriptor.length])
        self.finish_first(ring)
        # The turn follows the ring that was served, which need not be the one whose turn it was.
        self.turn = ring
        if descriptor.last == 1:
            self.frames_out.append(served.end_frame())
            self.frames_sent = one_more(self.frames_sent)
            self.turn = (ring + 1) % SENDING_RINGS

    def finish_first(self, ring):
        self.rings[ring].mark_first_done()
        self.cause.count_done()

    def receive(self, data):
        pieces = in_pieces(data)
        # Asked ahead of the first piece, so that no buffer holds a part of what is dropped.
        if len(self.rings[LENDING_RING].seen) < len(pieces):
            self.frames_dropped = one_more(self.frames_dropped)
            return False
        for piece in pieces[:-1]:
            self.fill_first(piece, 0)
        self.fill_first(pieces[-1], 1)
        self.frames_come = one_more(self.frames_come)
        return True

    def fill_first(self, piece, last):
        descriptor = self.rings[LENDING_RING].seen[0]
        self.write(descriptor.buffer, piece)
        descriptor.length = len(piece)
        descriptor.last = last
        self.finish_first(LENDING_RING)
