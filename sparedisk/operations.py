"""What the running disk's operations answer and do, told ahead of doing it."""

from sparedisk.finding import found_on
from sparedisk.layout import BLOCK_SIZE, Head, Transaction, head_block, homes_are_allowed, split_blocks
from sparedisk.layout import transaction_blocks


class Known:
    def __init__(self, head):
        """What the running disk knows when this head was just written: no place is taken."""
        self.head = head
        self.number = head.number
        self.place = head.place
        self.taken = 0
        self.newest = {}


class Operation:
    def __init__(self, answer, actions, known):
        """What is answered, what is done (see Medium.act), and what the disk knows behind it."""
        self.answer = answer
        self.actions = actions
        self.known = known


def refused(answer):
    """An operation that does nothing but answer a number below 0."""
    return Operation(answer, [], None)


def known_behind(known, transaction):
    """What the running disk knows behind the writing of a transaction."""
    size = len(transaction.homes) + 1
    behind = Known(known.head)
    behind.number = known.number + 1
    behind.place = (known.place + size) % known.head.shape.place_count
    behind.taken = known.taken + size
    behind.newest = dict(known.newest)
    for home, block in zip(transaction.homes, transaction.blocks):
        behind.newest[home] = block
    return behind


def home_writes(shape, newest):
    """The writes of these homes' newest blocks, by the homes' numbers."""
    return [(shape.block_of_home(home), newest[home]) for home in sorted(newest)]


def head_write(head):
    """The write of a head."""
    return (head.generation % 2, head_block(head))


def commit_operation(known, homes, data):
    """Committing these homes with their new blocks, which lie in data one behind another."""
    shape = known.head.shape
    if not homes_are_allowed(homes, shape.home_count) or len(data) != BLOCK_SIZE * len(homes):
        return refused(-2)
    if len(homes) + 1 > shape.place_count:
        return refused(-5)
    transaction = Transaction(homes, split_blocks(data))
    actions = []
    ahead = known
    if known.taken + len(homes) + 1 > shape.place_count:
        settling = settle_operation(known)
        actions.extend(settling.actions)
        ahead = settling.known
    for k, block in enumerate(transaction_blocks(ahead.number, transaction)):
        actions.append((shape.block_of_place(ahead.place + k), block))
    return Operation(ahead.number, actions, known_behind(ahead, transaction))


def flush_operation(known):
    """Flushing: a barrier."""
    return Operation(0, [None], known)


def settle_operation(known):
    """Settling: what the journal holds goes to the homes, and a new head leaves the journal empty."""
    if known.taken == 0:
        return Operation(0, [], known)
    shape = known.head.shape
    head = Head(known.head.generation + 1, shape, known.number, known.place)
    actions = [None] + home_writes(shape, known.newest) + [None, head_write(head), None]
    return Operation(0, actions, Known(head))


def mend_operation(blocks):
    """Mending a disk without power that has these blocks."""
    found = found_on(blocks)
    if found is None:
        return refused(-6)
    shape = found.head.shape
    newest = {}
    for transaction in found.transactions:
        for home, block in zip(transaction.homes, transaction.blocks):
            newest[home] = block
    # So far ahead that no number left in the journal by a lost transaction comes again.
    number = found.head.number + len(found.transactions) + shape.place_count
    head = Head(found.head.generation + 1, shape, number, found.place)
    actions = home_writes(shape, newest) + [None, head_write(head), None]
    return Operation(len(found.transactions), actions, Known(head))
