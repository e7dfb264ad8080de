"""All calls mixed: each answer is that of a second disk, written in other ways from the document's words."""

import functools
import random
import struct
import unittest

from sparedisk.disk import answers
from tests.lines import Case, COMMIT, FLUSH, MEND, MOST, SETTLE, arrive, block, commit, crc, cut, cut_in, flush, load
from tests.lines import look, make, mend, on_medium, plan, read, run, save, settle, sum_call, told, written_head
from tests.lines import written_transaction

total = functools.lru_cache(maxsize=None)(crc)


class Refusal(Exception):
    pass


class Running:
    """What a running disk knows."""

    def __init__(self, n, j, number, place, generation):
        self.n, self.j, self.h = n, j, n - j - 2
        self.number, self.place, self.taken, self.generation = number, place, 0, generation
        self.newest = {}


class Model:
    """A disk whose operations are done step by step, each action through one function that may stop it."""

    def __init__(self):
        self.medium, self.way, self.running = [], [], None
        self.actions, self.left = [], None

    def act(self, b=None, data=()):
        """One action; where only some are left, the power goes instead, and where none is to be done, it's noted."""
        if self.left is not None:
            if self.left == 0:
                raise StopIteration
            self.left -= 1
        self.actions.append((b, bytes(data)))
        if b is not None:
            self.way.append((b, bytes(data)))
        else:
            for where, what in self.way:
                self.medium[where] = what
            self.way = []

    def find(self):
        """The head that counts as generation, number, place, j; the transactions; the place behind them."""
        heads = []
        for b in range(2 if self.medium else 0):
            g, n, j, s, place = struct.unpack_from("<QIIQI", self.medium[b], 8)
            right = g % 2 == b and n == len(self.medium) and 4 <= j <= n - 3 and place < j and max(g, s) < 2 ** 60
            if right and self.medium[b] == bytes(written_head(g, n, j, s, place)):
                heads.append((g, s, place, j))
        if not heads:
            raise Refusal(-6)
        g, s, place, j = head = max(heads)
        ring = self.medium[2:2 + j]
        there = []
        while len(there) < j:
            m, = struct.unpack_from("<I", ring[place], 16)
            if not 1 <= m <= min(30, j - 1):
                break
            parts = [ring[(place + k) % j] for k in range(m + 1)]
            homes = [struct.unpack_from("<I", parts[0], 24 + 16 * k)[0] for k in range(m)]
            new = [parts[k + 1][:504] + parts[0][32 + 16 * k:40 + 16 * k] for k in range(m)]
            if len(set(homes)) < m or max(homes) >= len(self.medium) - j - 2:
                break
            if parts != [bytes(one) for one in written_transaction(s, homes, [list(one) for one in new])]:
                break
            there.append((homes, new))
            s, place = s + 1, (place + m + 1) % j
        return head, there, s, place

    def settle(self):
        state = self.running
        if not state.taken:
            return 0
        self.act()
        for home in sorted(state.newest):
            self.act(state.j + 2 + home, state.newest[home])
        self.act()
        state.generation += 1
        self.act(state.generation % 2, written_head(state.generation, state.n, state.j, state.number, state.place))
        self.act()
        state.taken, state.newest = 0, {}
        return 0

    def commit(self, homes, blocks):
        state = self.running
        if not 1 <= len(homes) <= 30 or len(set(homes)) < len(homes) or max(homes) >= state.h:
            raise Refusal(-2)
        size = len(homes) + 1
        if size > state.j:
            raise Refusal(-5)
        if state.taken + size > state.j:
            self.settle()
        for k, part in enumerate(written_transaction(state.number, homes, blocks)):
            self.act(2 + (state.place + k) % state.j, part)
        state.newest.update(zip(homes, blocks))
        state.number, state.place, state.taken = state.number + 1, (state.place + size) % state.j, state.taken + size
        return state.number - 1

    def mend(self):
        if self.running:
            raise Refusal(-3)
        (g, s, place, j), there, s, place = self.find()
        newest = {home: one for homes, new in there for home, one in zip(homes, new)}
        for home, one in sorted(newest.items()):
            self.act(j + 2 + home, one)
        self.act()
        self.act((g + 1) % 2, written_head(g + 1, len(self.medium), j, s + j, place))
        self.act()
        self.running = Running(len(self.medium), j, s + j, place, g + 1)
        return len(there)

    def operate(self, kind, homes=(), blocks=()):
        if kind == MEND:
            return self.mend()
        if not self.running:
            raise Refusal(-6)
        if kind == COMMIT:
            return self.commit(list(homes), list(blocks))
        if kind == SETTLE:
            return self.settle()
        self.act()
        return 0

    def arrive(self, row=()):
        for x in row:
            if x // 1024 < len(self.way):
                b, data = self.way[x // 1024]
                self.medium[b] = data[:x % 1024] + self.medium[b][x % 1024:]
        return [0]

    def cut(self, row=()):
        self.arrive(row)
        self.way, self.running = [], None
        return [0]

    def cut_in(self, after, kind, row=(), homes=(), blocks=()):
        self.left = after
        try:
            self.operate(kind, homes, blocks)
        except (Refusal, StopIteration):
            pass
        self.left = None
        return self.cut(row)

    def plan(self, kind, homes=(), blocks=()):
        """Done on a second disk that shares nothing with this one."""
        other = Model()
        other.medium, other.way = list(self.medium), list(self.way)
        if self.running:
            other.running = Running(0, 0, 0, 0, 0)
            other.running.__dict__.update(self.running.__dict__, newest=dict(self.running.newest))
        other.operate(kind, homes, blocks)
        told_of = [[0] if b is None else [b + 1, total(data)] for b, data in other.actions]
        return [0] + [number for one in told_of for number in one]

    def make(self, n, j):
        if not 8 <= n <= 4096 or not 4 <= j <= n - 3:
            raise Refusal(-2)
        self.medium = [bytes(written_head(g, n, j, 1, 0)) for g in range(2)] + [bytes(512)] * (n - 2)
        self.way, self.running = [], Running(n, j, 1, 0, 1)
        return [0]

    def read(self, k):
        if not self.running:
            raise Refusal(-6)
        if not 0 <= k < self.running.h:
            raise Refusal(-2)
        return [0] + list(self.running.newest.get(k, self.medium[-self.running.h:][k]))

    def told(self):
        if not self.running:
            raise Refusal(-6)
        state = self.running
        return [0, state.n, state.j, state.h, state.number, state.place, state.taken, state.generation, len(self.way)]

    def look(self):
        (g, s, place, _), there, _, _ = self.find()
        return [0, g, s, place, len(there)] + [number for homes, _ in there for number in [len(homes)] + homes]

    def on_medium(self, b):
        if not 0 <= b < len(self.medium):
            raise Refusal(-2)
        return [0] + list(self.medium[b])

    def save(self):
        return [len(self.medium)] + list(b"".join(self.medium))

    def load(self, blocks):
        data = b"".join(bytes(one) for one in blocks)
        if len(data) % 512 or not 8 * 512 <= len(data) <= 4096 * 512:
            raise Refusal(-2)
        self.medium = [data[at:at + 512] for at in range(0, len(data), 512)]
        self.way, self.running = [], None
        return [0]

    def answer(self, call, *values):
        """What this disk answers to the call that this function writes as numbers."""
        kinds = {commit: COMMIT, flush: FLUSH, settle: SETTLE, mend: MEND}
        try:
            if call in kinds:
                return [self.operate(kinds[call], *values)]
            if call is sum_call:
                return [crc(*values)]
            return getattr(self, call.__name__)(*values)
        except Refusal as refusal:
            return list(refusal.args)


class Line:
    """A list of calls made up by a seed, with what's to be answered to each."""

    def __init__(self, seed, most=29000):
        self.random = random.Random(seed)
        self.model = Model()
        self.calls, self.expected = [], []
        self.saves, self.room = 0, most
        if self.random.random() < 0.9:
            self.say(make, *self.shape())
        for _ in range(self.random.randint(10, 120)):
            self.step()

    def say(self, call, *values):
        numbers = call(*values)
        if len(numbers) <= self.room and len(self.calls) < 400:
            self.room -= len(numbers)
            self.calls.append(numbers)
            self.expected.append(self.model.answer(call, *values))

    def shape(self):
        if self.random.random() < 0.1:
            return self.random.choice([(7, 4), (8, 3), (8, 6), (-1, 4), (256, 254), (9, MOST), (250, 200)])
        j = self.random.randint(4, 9)
        return j + self.random.randint(3 + (j == 4), 9), j

    def row(self):
        size = self.random.choice([0, 1, 3, 10, 40])
        return [self.random.choice([1024 * self.random.randint(0, 12) + self.random.choice([0, 3, 504, 505, 512, 900]),
                                    self.random.randint(0, 12 * 1024), 1024 * self.random.randint(0, 5) + 512,
                                    self.random.choice([5, 512, MOST])]) for _ in range(size)]

    def homes(self):
        """Mostly homes of a transaction that there may be, with new blocks for them."""
        state = self.model.running
        h, j = (state.h, state.j) if state else (4, 4)
        if h >= j and self.random.random() < 0.2:
            homes = self.random.sample(range(h), j)
        elif self.random.random() < 0.1:
            homes = [self.random.choice([0, 1, h - 1, h, MOST]) for _ in range(self.random.choice([0, 1, 2, 3, j]))]
        else:
            homes = self.random.sample(range(h), self.random.randint(1, min(h, j - self.random.choice([0, 1, 1, 2]))))
        return homes, [block(self.random.randint(0, 250)) for _ in homes]

    def operation(self):
        kind = self.random.choice([COMMIT, COMMIT, FLUSH, SETTLE, MEND])
        if kind == MEND and self.model.running and self.random.random() < 0.8:
            kind = COMMIT
        return kind, self.homes() if kind == COMMIT else ([], [])

    def media(self):
        """A medium much like the one that's there, or hardly like one."""
        blocks = [list(one) for one in self.model.medium][:40]
        what = self.random.randint(0, 9)
        if what == 0 or len(blocks) < 8:
            return [block(k) for k in range(self.random.choice([0, 7, 8, 9]))]
        if what == 1:
            return blocks + [[3] * self.random.choice([1, 511])]
        for _ in range(self.random.choice([0, 1, 1, 2])):
            one = self.random.choice(blocks[:2] + blocks)
            one[self.random.choice([self.random.randint(0, 511), self.random.randint(0, 40)])] ^= 1 << what % 8
        if what < 6:
            self.write_anew(blocks)
        return blocks

    def write_anew(self, blocks):
        """Put a head with numbers that may be wrong, and transactions like it, on these blocks."""
        pick = self.random.choice
        j = pick([4, 5, 6, len(blocks) - 3, len(blocks) - 2, 3])
        g, s = pick([0, 1, 5, 8, 2 ** 60 - 1, 2 ** 60]), pick([0, 1, 77, 2 ** 60 - 1, 2 ** 60])
        place = self.random.randint(0, j - pick([0, 1, 1, 1, 1]))
        n = len(blocks) + pick([0, 0, 0, 0, 0, 0, 1, -1])
        blocks[g % 2] = written_head(g, n, j, s, place)
        for _ in range(pick([0, 1, 2, 3])):
            homes = [self.random.randint(0, max(0, n - j - pick([2, 3, 3, 3, 3]))) for _ in range(pick([1, 1, 2, 3]))]
            for part in written_transaction(s, homes, [block(self.random.randint(0, 250)) for _ in homes]):
                blocks[2 + place % j] = part
                place += 1
            s += pick([1, 1, 1, 1, 1, 2])

    def step(self):
        running = self.model.running is not None
        what = self.random.choice(["commit"] * (5 if running else 1) + ["mend"] * (1 if running else 5)
                                  + ["others"] * 3 + ["ask"] * 5)
        if what == "commit":
            self.say(commit, *self.homes())
        elif what == "mend":
            self.say(mend)
        elif what == "ask":
            self.ask()
        else:
            self.other()

    def ask(self):
        call = self.random.choice([read, told, on_medium, look, plan, save, sum_call])
        if call is save and self.saves == 6:
            return
        self.saves += call is save
        values = ()
        if call in (read, on_medium):
            values = (self.random.randint(-1, len(self.model.medium) // (2 if call is read else 1)),)
        if call is plan:
            kind, (homes, blocks) = self.operation()
            values = (kind, homes, blocks)
        if call is sum_call:
            values = ([self.random.randint(0, 255) for _ in range(self.random.choice([0, 1, 9, 30]))],)
        self.say(call, *values)

    def other(self):
        call = self.random.choice([flush, settle, cut, cut_in, cut_in, arrive, arrive, load, make])
        if call is make and self.random.random() < 0.6:
            return
        values = ()
        if call in (cut, arrive):
            values = (self.row(),)
        if call is cut_in:
            kind, (homes, blocks) = self.operation()
            values = (self.random.choice([0, 1, 2, 3, 5, 8, MOST]), kind, self.row(), homes, blocks)
        if call is load:
            values = (self.media(),)
        if call is make:
            values = self.shape()
        self.say(call, *values)


class WholeTest(Case):
    @classmethod
    def setUpClass(cls):
        cls.lines = [Line(seed) for seed in range(120)]

    def test_all_calls_mixed(self):
        for seed, line in enumerate(self.lines):
            for k, answer in enumerate(run(*line.calls)):
                self.assertEqual(answer, line.expected[k], (seed, k, line.calls[k][:9]))

    def test_each_answer_comes_up(self):
        # Else the lines above would try less than they seem to.
        seen = set()
        for line in self.lines:
            seen |= {(call[0], min(answer[0], 0)) for call, answer in zip(line.calls, line.expected)}
        refused = {0: [-2], 1: [-2, -6], 2: [-2, -5, -6], 3: [-6], 4: [-6], 5: [-3, -6], 9: [-6], 10: [-2], 11: [-6],
                   13: [-2], 14: [-2, -3, -5, -6]}
        for number in range(16):
            for answer in [0] + refused.get(number, []):
                self.assertIn((number, answer), seen)

    def test_a_second_call_begins_anew_and_changes_no_list(self):
        for line in self.lines[:20]:
            numbers = [number for call in line.calls for number in call]
            kept = list(numbers)
            first = answers(numbers)
            self.assertEqual(numbers, kept)
            self.assertEqual(answers(numbers), first)


if __name__ == "__main__":
    unittest.main()
