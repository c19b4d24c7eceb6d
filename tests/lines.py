"""Writes calls as the interface has them, and parts what is answered call by call."""

import unittest

from cardringsdesk.card import answers

SMALLEST = -2147483648
LARGEST = 2147483647


def call(number, *numbers):
    return [number, len(numbers), *numbers, 0]


def opened(k=6, many=64, late=1000):
    return call(1, k, many, late)


def write(buffer, data):
    return call(2, buffer, len(data), *data)


def write_no_bytes(buffer, n):
    """A write whose n is not in its range: no bytes are handed in behind it."""
    return call(2, buffer, n)


def read(buffer):
    return call(3, buffer)


def post(ring, buffer, n=1, last=1):
    return call(4, ring, buffer, n, last)


def door(ring):
    return call(5, ring)


def work(n=64):
    return call(6, n)


def reap(ring):
    return call(7, ring)


def out():
    return call(8)


def lend(buffer):
    return call(9, buffer)


def wire(data):
    return call(10, len(data), *data)


def wire_no_bytes(n):
    """A wire whose n is not in its range: no bytes are handed in behind it."""
    return call(10, n)


def take():
    return call(11)


def tick(n=1):
    return call(12, n)


def cause():
    return call(13)


def state(ring):
    return call(14, ring)


def counts():
    return call(15)


def sent(ring, buffer, n=1, last=1):
    """One descriptor posted, shown and done."""
    return [post(ring, buffer, n, last), door(ring), work(1)]


def lent(*buffers):
    """Buffers lent and shown."""
    return [lend(buffer) for buffer in buffers] + [door(4)]


def unasked(calls):
    """Calls of which any answer will do, for assert_answers."""
    return [(one, None) for one in calls]


def joined(calls):
    line = [number for one in calls for number in one]
    if not 1 <= len(calls) <= 60 or len(line) > 30000:
        raise ValueError("no such line is handed in")
    return line


def parted(told):
    parts = []
    place = 0
    while place < len(told):
        end = place + 1 + told[place]
        if told[place] < 1 or end > len(told):
            raise ValueError("the answer's counts don't fit")
        parts.append(told[place + 1:end])
        place = end
    return parts


def ask(*calls):
    parts = parted(answers(joined(calls)))
    if len(parts) != len(calls):
        raise ValueError("not one answer a call")
    return parts


def outside(least, most):
    """One below, one above, and far outside a range."""
    return [least - 1, most + 1, least - 1000, most + 1000, SMALLEST, LARGEST]


class LineTest(unittest.TestCase):
    def assert_answers(self, *pairs):
        """Each pair is a call and what is to be answered of it; None stands for anything."""
        told = ask(*[pair[0] for pair in pairs])
        for place, pair in enumerate(pairs):
            if pair[1] is not None:
                self.assertEqual(told[place], pair[1], f"call {place}: {pair[0][:6]}")
