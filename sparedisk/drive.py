"""One disk, with or without power, and the calls on it."""

from sparedisk.layout import BLOCK_SIZE, Head, Shape, head_block, shape_is_allowed
from sparedisk.medium import Medium
from sparedisk.operations import Known, commit_operation, flush_operation, mend_operation, refused, settle_operation

COMMIT = 0
FLUSH = 1
SETTLE = 2
MEND = 3


class Drive:
    def __init__(self):
        """No disk at first: no blocks and no power. What is known is None without power."""
        self.medium = Medium([])
        self.known = None

    def make(self, block_count, place_count):
        """Make a new disk that runs."""
        if not shape_is_allowed(block_count, place_count):
            return [-2]
        shape = Shape(block_count, place_count)
        newer = Head(1, shape, 1, 0)
        heads = [head_block(Head(0, shape, 1, 0)), head_block(newer)]
        self.medium = Medium(heads + [[0] * BLOCK_SIZE] * (block_count - 2))
        self.known = Known(newer)
        return [0]

    def read(self, home):
        """The block that a home reads as."""
        if self.known is None:
            return [-6]
        shape = self.known.head.shape
        if home < 0 or home >= shape.home_count:
            return [-2]
        if home in self.known.newest:
            return [0] + self.known.newest[home]
        return [0] + self.medium.blocks[shape.block_of_home(home)]

    def operation(self, kind, homes, data):
        """The operation that would be done now; homes and data are a commit's."""
        if kind == MEND:
            if self.known is not None:
                return refused(-3)
            return mend_operation(self.medium.blocks)
        if self.known is None:
            return refused(-6)
        if kind == COMMIT:
            return commit_operation(self.known, homes, data)
        if kind == FLUSH:
            return flush_operation(self.known)
        return settle_operation(self.known)

    def operate(self, kind, homes, data):
        """Do an operation to its end."""
        operation = self.operation(kind, homes, data)
        if operation.answer >= 0:
            for action in operation.actions:
                self.medium.act(action)
            self.known = operation.known
        return [operation.answer]

    def cut(self, row):
        """Let the power go."""
        self.medium.arrive(row)
        self.medium.lose()
        self.known = None
        return [0]

    def cut_in(self, after, operation, row):
        """Let the power go behind the first actions of an operation."""
        # A refused operation has no actions: then this is as cut.
        for action in operation.actions[:after]:
            self.medium.act(action)
        return self.cut(row)
