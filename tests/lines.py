"""Calls written as numbers, their answers taken apart, and blocks written by other means than the program's."""

import struct
import unittest

from sparedisk.disk import answers

COMMIT, FLUSH, SETTLE, MEND = range(4)
ZEROS = [0] * 512
MOST = 2147483647


class Case(unittest.TestCase):
    """Tells of two lists where they first differ: unittest's own telling of long ones takes minutes."""

    def __init__(self, *names):
        super().__init__(*names)
        self.addTypeEqualityFunc(list, self.check_same)
        self.addTypeEqualityFunc(tuple, self.check_same)

    def check_same(self, first, second, msg=None):
        if first == second:
            return
        path = []
        while isinstance(first, (list, tuple)) and type(first) is type(second):
            at = 0
            while at < min(len(first), len(second)) and first[at] == second[at]:
                at += 1
            path.append(at)
            if at == min(len(first), len(second)):
                break
            first, second = first[at], second[at]
        self.fail(self._formatMessage(msg, f"differ at {path}: {str(first)[:200]} and {str(second)[:200]}"))


def block(seed):
    """A block that differs from those of other seeds (0 to 250) in every byte."""
    return [(seed + 3 * k) % 251 for k in range(512)]


def row(numbers):
    return [len(numbers)] + list(numbers)


def joined(blocks):
    return [byte for one in blocks for byte in one]


def make(n, j):
    return [0, n, j]


def read(k):
    return [1, k]


def commit(homes, blocks):
    return [2] + row(homes) + row(joined(blocks))


def flush():
    return [3]


def settle():
    return [4]


def mend():
    return [5]


def cut(arrived=()):
    return [6] + row(arrived)


def cut_in(after, kind, arrived=(), homes=(), blocks=()):
    return [7, after, kind] + row(arrived) + row(homes) + row(joined(blocks))


def arrive(arrived=()):
    return [8] + row(arrived)


def told():
    return [9]


def on_medium(b):
    """The call block: what the medium has there."""
    return [10, b]


def look():
    return [11]


def save():
    return [12]


def load(blocks):
    return [13] + row(joined(blocks))


def plan(kind, homes=(), blocks=()):
    return [14, kind] + row(homes) + row(joined(blocks))


def sum_call(data):
    return [15] + row(data)


def run(*calls):
    """The answers to these calls, a list for each."""
    told = answers([number for call in calls for number in call])
    found = []
    at = 0
    while at < len(told):
        found.append(told[at + 1:at + 1 + told[at]])
        at += 1 + told[at]
    assert at == len(told) and len(found) == len(calls), "the counts in the answers are wrong"
    return found


def first_numbers(*calls):
    """The number that's answered first to each of these calls."""
    return [answer[0] for answer in run(*calls)]


def whole(*writes):
    """A row by which these writes arrive as a whole."""
    return [1024 * write + 512 for write in writes]


def crc(data):
    """CRC-32C, bit by bit as the document tells it."""
    c = 2 ** 32 - 1
    for byte in data:
        c ^= byte
        for _ in range(8):
            c = c // 2 ^ (0x82F63B78 if c % 2 else 0)
    return c ^ 2 ** 32 - 1


def written_head(g, n, j, number, place):
    """A head as a block."""
    data = b"TALLYDSK" + struct.pack("<QIIQI", g, n, j, number, place)
    data = data.ljust(500, b"\0")
    return list(data + struct.pack("<IQ", crc(data), g))


def written_transaction(s, homes, blocks):
    """A transaction as the blocks of its places."""
    data = b"TALLYTXN" + struct.pack("<QII", s, len(homes), 0)
    for home, new in zip(homes, blocks):
        data += struct.pack("<II", home, crc(new)) + bytes(new[504:])
    number = struct.pack("<Q", s)
    return [list(data.ljust(504, b"\0") + number)] + [new[:504] + list(number) for new in blocks]
