"""Many lines, made up from a fixed seed, against another telling of the same words."""

import random
import unittest

from cardringsdesk.card import answers

from lines import (ask, cause, counts, door, joined, lend, opened, out, post, read, reap, state, take, tick, wire, work,
                   write)


class Model:
    """Keeps one log of all descriptors; which ring, and how far, is written beside each."""

    def __init__(self, k, many, late):
        self.places = 2 ** k
        self.many = many
        self.late = late
        self.bytes = {buffer: bytearray(256) for buffer in range(64)}
        self.log = []
        self.parts = {ring: b"" for ring in range(5)}
        self.gone = []
        self.order = [0, 1, 2, 3]
        self.tally = {"sent": 0, "came": 0, "dropped": 0}
        # What went on since the cause was asked for last: "done", or how many ticks.
        self.since = []

    def of(self, ring, stage=None):
        return [row for row in self.log if row["ring"] == ring and stage in (None, row["stage"])]

    def held(self, buffer):
        return any(row["buffer"] == buffer for row in self.log)

    def write(self, buffer, n, *data):
        if self.held(buffer):
            return [-4]
        self.bytes[buffer][:n] = bytes(data)
        return [0]

    def read(self, buffer):
        return [-4] if self.held(buffer) else [0, *self.bytes[buffer]]

    def post(self, ring, buffer, n, last):
        if self.held(buffer):
            return [-4]
        if len(self.of(ring)) >= self.places:
            return [-5]
        self.log.append({"ring": ring, "buffer": buffer, "n": n, "last": last, "stage": "posted"})
        return [len(self.of(ring))]

    def lend(self, buffer):
        return self.post(4, buffer, None, None)

    def door(self, ring):
        rows = self.of(ring, "posted")
        for row in rows:
            row["stage"] = "seen"
        return [len(rows)]

    def work(self, n):
        for steps in range(n):
            rows = [row for ring in self.order for row in self.of(ring, "seen")[:1]]
            if not rows or rows[0]["last"] and len(self.gone) >= 16:
                return [steps]
            self.serve(rows[0])
        return [n]

    def serve(self, row):
        ring = row["ring"]
        row["stage"] = "done"
        self.since.append("done")
        self.parts[ring] = (self.parts[ring] + bytes(self.bytes[row["buffer"]][:row["n"]]))[:4096]
        while self.order[0] != ring:
            self.order.append(self.order.pop(0))
        if row["last"]:
            self.gone.append(self.parts[ring])
            self.tally["sent"] += 1
            self.parts[ring] = b""
            self.order.append(self.order.pop(0))

    def reap(self, ring):
        rows = self.of(ring, "done")
        self.log = [row for row in self.log if row not in rows]
        return [len(rows)] + [number for row in rows for number in (row["buffer"], row["n"], row["last"])]

    def out(self):
        if not self.gone:
            return [-6]
        frame = self.gone.pop(0)
        return [len(frame), *frame]

    def wire(self, n, *data):
        rows = self.of(4, "seen")
        needed = -(-n // 256)
        if len(rows) < needed:
            self.tally["dropped"] += 1
            return [0]
        self.tally["came"] += 1
        for place, byte in enumerate(data):
            row = rows[place // 256]
            self.bytes[row["buffer"]][place % 256] = byte
            row.update(n=place % 256 + 1, last=int(place // 256 == needed - 1), stage="done")
        self.since += ["done"] * needed
        return [1]

    def take(self):
        rows = self.of(4, "done")
        if not rows:
            return [-6]
        self.log.remove(rows[0])
        return [0, rows[0]["buffer"], rows[0]["n"], rows[0]["last"]]

    def called(self):
        first = self.since.index("done") if "done" in self.since else len(self.since)
        waited = sum(one for one in self.since[first:] if one != "done")
        return int(self.since.count("done") >= self.many or waited >= self.late)

    def tick(self, n):
        self.since.append(n)
        return [self.called()]

    def cause(self):
        told = [self.called(), self.since.count("done")]
        self.since = []
        return told

    def state(self, ring):
        return [0] + [len(self.of(ring, stage)) for stage in ("posted", "seen", "done")] + [len(self.parts[ring])]

    def counts(self):
        return [0, self.tally["sent"], self.tally["came"], self.tally["dropped"], len(self.gone), self.order[0]]


NAMES = {2: "write", 3: "read", 4: "post", 5: "door", 6: "work", 7: "reap", 8: "out", 9: "lend", 10: "wire", 11: "take",
         12: "tick", 13: "cause", 14: "state", 15: "counts"}

SENDING = ["write", "read", "post", "post", "post", "post", "door", "door", "work", "reap", "out"]
LENDING = ["read", "lend", "lend", "lend", "lend", "door 4", "door 4", "wire", "wire", "take", "take", "tick", "state"]
ALL = SENDING + LENDING + ["tick", "cause", "state", "counts", "counts"]

WIRE_SIZES = [1, 2, 255, 256, 257, 512, 513, 768, 769, 1024]


def some_bytes(source, n):
    return [source.randrange(256) for place in range(n)]


def made_up_call(source, buffers, kinds):
    kind = source.choice(kinds)
    ring = source.randrange(4)
    buffer = source.randrange(buffers)
    if kind == "write":
        return write(buffer, some_bytes(source, source.choice([0, 1, 5, 255, 256])))
    if kind == "post":
        return post(ring, buffer, source.choice([1, 2, 255, 256]), source.choice([0, 1, 1]))
    if kind == "work":
        return work(source.choice([1, 2, 3, 64]))
    if kind == "wire":
        return wire(some_bytes(source, source.choice(WIRE_SIZES)))
    if kind == "tick":
        return tick(source.choice([1, 1, 2, 3, 10, 1000]))
    return {"read": read(buffer), "door": door(ring), "reap": reap(ring), "out": out(), "lend": lend(buffer),
            "door 4": door(4), "take": take(), "cause": cause(), "state": state(source.randrange(5)),
            "counts": counts()}[kind]


def filled_buffers(source, buffers):
    return [write(buffer, some_bytes(source, 256)) for buffer in range(buffers)]


class ModelTest(unittest.TestCase):
    def assert_as_model(self, calls, k, many=64, late=1000):
        model = Model(k, many, late)
        told = ask(opened(k, many, late), *calls)[1:]
        for place, one in enumerate(calls):
            self.assertEqual(told[place], getattr(model, NAMES[one[0]])(*one[2:-1]), (place, calls))

    def test_made_up_lines_of_sending(self):
        source = random.Random(20261118)
        for line in range(1000):
            buffers = source.choice([4, 12, 64])
            calls = filled_buffers(source, min(buffers, 8))
            calls += [made_up_call(source, buffers, SENDING) for place in range(59 - len(calls))]
            self.assert_as_model(calls, source.randint(1, 6))

    def test_made_up_lines_with_many_frames_out(self):
        source = random.Random(16)
        for line in range(300):
            calls = [write(buffer, [buffer]) for buffer in range(8)]
            calls += [post(source.randrange(4), buffer, 1, source.choice([0, 1, 1, 1])) for buffer in range(28)]
            calls += [door(0), door(1), door(2), door(3), work()]
            calls += [source.choice([out(), work(1), work(), reap(source.randrange(4)), counts(), cause()])
                      for place in range(18)]
            self.assert_as_model(calls, source.randint(3, 6))

    def test_made_up_lines_of_lending(self):
        source = random.Random(256)
        for line in range(1000):
            buffers = source.choice([4, 12, 64])
            calls = filled_buffers(source, min(buffers, 6))
            calls += [made_up_call(source, buffers, LENDING) for place in range(59 - len(calls))]
            self.assert_as_model(calls, source.randint(1, 6), source.randint(1, 9), source.randint(1, 20))

    def test_made_up_lines_of_all_calls(self):
        source = random.Random(15)
        for line in range(2000):
            buffers = source.choice([4, 8, 24])
            calls = filled_buffers(source, source.choice([0, 3]))
            calls += [made_up_call(source, buffers, ALL) for place in range(59 - len(calls))]
            self.assert_as_model(calls, source.randint(1, 6), source.randint(1, 5), source.randint(1, 12))

    def test_made_up_lines_stay_and_are_answered_the_same_again(self):
        source = random.Random(7)
        for line in range(100):
            handed = joined([opened(2, 3, 4)] + [made_up_call(source, 8, ALL) for place in range(50)])
            kept = list(handed)
            first = answers(handed)
            self.assertEqual(handed, kept)
            self.assertEqual(answers(handed), first)
