"""Calls written as numbers, their answers taken apart, and blocks written by other means than the program's."""

import struct

from sparedisk.disk import answers

COMMIT, FLUSH, SETTLE, MEND = range(4)
ZEROS = [0] * 512
MOST = 2147483647


def block(seed):
    """A block that differs from those of other seeds (0 to 250) in every byte."""
    return [(seed + 3 * k) % 251 for k in range(512)]


def row(numbers):
    return [len(numbers)] + list(numbers)


def joined(blocks):
    return [byte for one in blocks for byte in one]


def make(n, j):
    return [0, n, j]


def read(k):
    return [1, k]


def commit(homes, blocks):
    return [2] + row(homes) + row(joined(blocks))


def flush():
    return [3]


def settle():
    return [4]


def mend():
    return [5]


def cut(arrived=()):
    return [6] + row(arrived)


def cut_in(after, kind, arrived=(), homes=(), blocks=()):
    return [7, after, kind] + row(arrived) + row(homes) + row(joined(blocks))


def run(*calls):
    """The answers to these calls, a list for each."""
    told = answers([number for call in calls for number in call])
    found = []
    at = 0
    while at < len(told):
        found.append(told[at + 1:at + 1 + told[at]])
        at += 1 + told[at]
    assert at == len(told) and len(found) == len(calls), "the counts in the answers are wrong"
    return found


def first_numbers(*calls):
    """The number that's answered first to each of these calls."""
    return [answer[0] for answer in run(*calls)]


def whole(*writes):
    """A row by which these writes arrive as a whole."""
    return [1024 * write + 512 for write in writes]


def crc(data):
    """CRC-32C, bit by bit as the document tells it."""
    c = 2 ** 32 - 1
    for byte in data:
        c ^= byte
        for _ in range(8):
            c = c // 2 ^ (0x82F63B78 if c % 2 else 0)
    return c ^ 2 ** 32 - 1


def written_head(g, n, j, number, place):
    """A head as a block."""
    data = b"TALLYDSK" + struct.pack("<QIIQI", g, n, j, number, place)
    data = data.ljust(500, b"\0")
    return list(data + struct.pack("<IQ", crc(data), g))


def written_transaction(s, homes, blocks):
    """A transaction as the blocks of its places."""
    data = b"TALLYTXN" + struct.pack("<QII", s, len(homes), 0)
    for home, new in zip(homes, blocks):
        data += struct.pack("<II", home, crc(new)) + bytes(new[504:])
    number = struct.pack("<Q", s)
    return [list(data.ljust(504, b"\0") + number)] + [new[:504] + list(number) for new in blocks]
