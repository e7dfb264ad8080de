"""One disk, with or without power, and the calls on it."""

from sparedisk.checksum import sum_of
from sparedisk.finding import found_on
from sparedisk.layout import BLOCK_SIZE, Head, Shape, block_count_is_allowed, head_block, shape_is_allowed, split_blocks
from sparedisk.medium import Medium
from sparedisk.operations import Known, commit_operation, flush_operation, mend_operation, refused, settle_operation

COMMIT = 0
FLUSH = 1
SETTLE = 2
MEND = 3


class Drive:
    def __init__(self):
        """No disk at first: no blocks and no power. What is known is None without power."""
        self.medium = Medium([])
        self.known = None

    def make(self, block_count, place_count):
        """Make a new disk that runs."""
        if not shape_is_allowed(block_count, place_count):
            return [-2]
        shape = Shape(block_count, place_count)
        newer = Head(1, shape, 1, 0)
        heads = [head_block(Head(0, shape, 1, 0)), head_block(newer)]
        self.medium = Medium(heads + [[0] * BLOCK_SIZE] * (block_count - 2))
        self.known = Known(newer)
        return [0]

    def read(self, home):
        """The block that a home reads as."""
        if self.known is None:
            return [-6]
        shape = self.known.head.shape
        if home < 0 or home >= shape.home_count:
            return [-2]
        if home in self.known.newest:
            return [0] + self.known.newest[home]
        return [0] + self.medium.blocks[shape.block_of_home(home)]

    def operation(self, kind, homes, data):
        """The operation that would be done now; homes and data are a commit's."""
        if kind == MEND:
            if self.known is not None:
                return refused(-3)
            return mend_operation(self.medium.blocks)
        if self.known is None:
            return refused(-6)
        if kind == COMMIT:
            return commit_operation(self.known, homes, data)
        if kind == FLUSH:
            return flush_operation(self.known)
        return settle_operation(self.known)

    def operate(self, kind, homes, data):
        """Do an operation to its end."""
        operation = self.operation(kind, homes, data)
        if operation.answer >= 0:
            for action in operation.actions:
                self.medium.act(action)
            self.known = operation.known
        return [operation.answer]

    def cut(self, row):
        """Let the power go."""
        self.medium.arrive(row)
        self.medium.lose()
        self.known = None
        return [0]

    def cut_in(self, after, operation, row):
        """Let the power go behind the first actions of an operation."""
        # A refused operation has no actions: then this is as cut.
        for action in operation.actions[:after]:
            self.medium.act(action)
        return self.cut(row)

    def arrive(self, row):
        """Let writes arrive that stay on their way."""
        self.medium.arrive(row)
        return [0]

    def told(self):
        """What the running disk knows, in numbers."""
        known = self.known
        if known is None:
            return [-6]
        shape = known.head.shape
        sizes = [shape.block_count, shape.place_count, shape.home_count]
        return [0] + sizes + [known.number, known.place, known.taken, known.head.generation, len(self.medium.on_way)]

    def block(self, b):
        """What the medium has in a block."""
        if b < 0 or b >= len(self.medium.blocks):
            return [-2]
        return [0] + self.medium.blocks[b]

    def look(self):
        """What mending would find on the medium as it is now."""
        found = found_on(self.medium.blocks)
        if found is None:
            return [-6]
        answer = [0, found.head.generation, found.head.number, found.head.place, len(found.transactions)]
        for transaction in found.transactions:
            answer.append(len(transaction.homes))
            answer.extend(transaction.homes)
        return answer

    def save(self):
        """How many blocks the medium has, and all their bytes."""
        answer = [len(self.medium.blocks)]
        for block in self.medium.blocks:
            answer.extend(block)
        return answer

    def load(self, data):
        """Take a disk without power that has these bytes in the place of what was there."""
        if len(data) % BLOCK_SIZE != 0 or not block_count_is_allowed(len(data) // BLOCK_SIZE):
            return [-2]
        self.medium = Medium(split_blocks(data))
        self.known = None
        return [0]

    def plan(self, kind, homes, data):
        """The actions that an operation would do now, without doing it."""
        operation = self.operation(kind, homes, data)
        if operation.answer < 0:
            return [operation.answer]
        answer = [0]
        for action in operation.actions:
            if action is None:
                answer.append(0)
            else:
                answer.extend([action[0] + 1, sum_of(action[1])])
        return answer
