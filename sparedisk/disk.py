"""The calls on one disk, written as a list of whole numbers."""

from sparedisk.checksum import sum_of
from sparedisk.drive import COMMIT, FLUSH, MEND, SETTLE, Drive


class Reader:
    def __init__(self, calls):
        """Goes through a list of calls once, from its beginning on."""
        self.calls = calls
        self.at = 0

    def is_at_end(self):
        """Whether all numbers have been taken."""
        return self.at == len(self.calls)

    def take(self):
        """The next number."""
        self.at = self.at + 1
        return self.calls[self.at - 1]

    def take_row(self):
        """The next row, which has ahead of it how many numbers it has."""
        size = self.take()
        self.at = self.at + size
        return self.calls[self.at - size:self.at]


def call_make(drive, reader):
    """make: n, j."""
    block_count = reader.take()
    place_count = reader.take()
    return drive.make(block_count, place_count)


def call_read(drive, reader):
    """read: k."""
    return drive.read(reader.take())


def call_commit(drive, reader):
    """commit: homes, blocks."""
    homes = reader.take_row()
    data = reader.take_row()
    return drive.operate(COMMIT, homes, data)


def call_flush(drive, reader):
    """flush."""
    return drive.operate(FLUSH, [], [])


def call_settle(drive, reader):
    """settle."""
    return drive.operate(SETTLE, [], [])


def call_mend(drive, reader):
    """mend."""
    return drive.operate(MEND, [], [])


def call_cut(drive, reader):
    """cut: row."""
    return drive.cut(reader.take_row())


def call_cut_in(drive, reader):
    """cut_in: after, kind, row, homes, blocks."""
    after = reader.take()
    kind = reader.take()
    row = reader.take_row()
    homes = reader.take_row()
    data = reader.take_row()
    return drive.cut_in(after, drive.operation(kind, homes, data), row)


def call_arrive(drive, reader):
    """arrive: row."""
    return drive.arrive(reader.take_row())


def call_told(drive, reader):
    """told."""
    return drive.told()


def call_block(drive, reader):
    """block: b."""
    return drive.block(reader.take())


def call_look(drive, reader):
    """look."""
    return drive.look()


def call_save(drive, reader):
    """save."""
    return drive.save()


def call_load(drive, reader):
    """load: medium."""
    return drive.load(reader.take_row())


def call_plan(drive, reader):
    """plan: kind, homes, blocks."""
    kind = reader.take()
    homes = reader.take_row()
    data = reader.take_row()
    return drive.plan(kind, homes, data)


def call_sum(drive, reader):
    """sum: bytes."""
    return [sum_of(reader.take_row())]


# A call's number is its place in this row.
CALLS = (
    call_make, call_read, call_commit, call_flush, call_settle, call_mend, call_cut, call_cut_in,
    call_arrive, call_told, call_block, call_look, call_save, call_load, call_plan, call_sum,
)


def answers(calls):
    """The answers to a list of calls, each with how many numbers it has ahead of it."""
    reader = Reader(calls)
    drive = Drive()
    told = []
    while not reader.is_at_end():
        call = CALLS[reader.take()]
        answer = call(drive, reader)
        told.append(len(answer))
        told.extend(answer)
    return told
