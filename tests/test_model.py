"""Many lines, made up from a fixed seed, against another telling of the same words."""

import random
import unittest

from lines import ask, door, opened, out, post, read, reap, work, write


class Model:
    """Keeps one log of all descriptors; which ring, and how far, is written beside each."""

    def __init__(self, k):
        self.places = 2 ** k
        self.bytes = {buffer: bytearray(256) for buffer in range(64)}
        self.log = []
        self.parts = {ring: b"" for ring in range(4)}
        self.gone = []
        self.order = [0, 1, 2, 3]

    def of(self, ring, stage=None):
        return [row for row in self.log if row["ring"] == ring and stage in (None, row["stage"])]

    def held(self, buffer):
        return any(row["buffer"] == buffer for row in self.log)

    def write(self, buffer, n, *data):
        if self.held(buffer):
            return [-4]
        self.bytes[buffer][:n] = bytes(data)
        return [0]

    def read(self, buffer):
        return [-4] if self.held(buffer) else [0, *self.bytes[buffer]]

    def post(self, ring, buffer, n, last):
        if self.held(buffer):
            return [-4]
        if len(self.of(ring)) >= self.places:
            return [-5]
        self.log.append({"ring": ring, "buffer": buffer, "n": n, "last": last, "stage": "posted"})
        return [len(self.of(ring))]

    def door(self, ring):
        rows = self.of(ring, "posted")
        for row in rows:
            row["stage"] = "seen"
        return [len(rows)]

    def work(self, n):
        for steps in range(n):
            rows = [row for ring in self.order for row in self.of(ring, "seen")[:1]]
            if not rows or rows[0]["last"] and len(self.gone) >= 16:
                return [steps]
            self.serve(rows[0])
        return [n]

    def serve(self, row):
        ring = row["ring"]
        row["stage"] = "done"
        self.parts[ring] += bytes(self.bytes[row["buffer"]][:row["n"]])
        while self.order[0] != ring:
            self.order.append(self.order.pop(0))
        if row["last"]:
            self.gone.append(self.parts[ring][:4096])
            self.parts[ring] = b""
            self.order.append(self.order.pop(0))

    def reap(self, ring):
        rows = self.of(ring, "done")
        self.log = [row for row in self.log if row not in rows]
        return [len(rows)] + [number for row in rows for number in (row["buffer"], row["n"], row["last"])]

    def out(self):
        if not self.gone:
            return [-6]
        frame = self.gone.pop(0)
        return [len(frame), *frame]


def made_up_call(source, buffers):
    kind = source.choice(["write", "read", "post", "post", "post", "post", "door", "door", "work", "reap", "out"])
    ring = source.randrange(4)
    buffer = source.randrange(buffers)
    if kind == "write":
        return write(buffer, [source.randrange(256) for place in range(source.choice([0, 1, 5, 255, 256]))])
    if kind == "post":
        return post(ring, buffer, source.choice([1, 2, 255, 256]), source.choice([0, 1, 1]))
    if kind == "work":
        return work(source.choice([1, 2, 3, 64]))
    return {"read": read(buffer), "door": door(ring), "reap": reap(ring), "out": out()}[kind]


def filled_buffers(source, buffers):
    return [write(buffer, [source.randrange(256) for place in range(256)]) for buffer in range(buffers)]


class ModelTest(unittest.TestCase):
    def assert_as_model(self, calls, k):
        model = Model(k)
        told = ask(opened(k), *calls)[1:]
        names = {2: model.write, 3: model.read, 4: model.post, 5: model.door, 6: model.work, 7: model.reap, 8: model.out}
        for place, one in enumerate(calls):
            self.assertEqual(told[place], names[one[0]](*one[2:-1]), (place, calls))

    def test_made_up_lines(self):
        source = random.Random(20261118)
        for line in range(1500):
            buffers = source.choice([4, 12, 64])
            calls = filled_buffers(source, min(buffers, 8))
            calls += [made_up_call(source, buffers) for place in range(59 - len(calls))]
            self.assert_as_model(calls, source.randint(1, 6))

    def test_made_up_lines_with_many_frames_out(self):
        source = random.Random(16)
        for line in range(300):
            calls = [write(buffer, [buffer]) for buffer in range(8)]
            calls += [post(source.randrange(4), buffer, 1, source.choice([0, 1, 1, 1])) for buffer in range(28)]
            calls += [door(0), door(1), door(2), door(3), work()]
            calls += [source.choice([out(), work(1), work(), reap(source.randrange(4))]) for place in range(18)]
            self.assert_as_model(calls, source.randint(3, 6))
