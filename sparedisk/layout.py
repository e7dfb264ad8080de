"""How numbers, heads and transactions lie in blocks."""

from sparedisk.checksum import sum_of

BLOCK_SIZE = 512
HEAD_SUM_AT = 500
TAIL_AT = 504
ENTRIES_AT = 24
ENTRY_SIZE = 16
MOST_HOMES = 30
# 2 to the power of 60: what a head may tell is less.
NUMBER_LIMIT = 0x1000000000000000


class Shape:
    def __init__(self, block_count, place_count):
        """How a disk's blocks are shared out between the journal and the homes."""
        self.block_count = block_count
        self.place_count = place_count
        self.home_count = block_count - place_count - 2

    def block_of_home(self, home):
        """The number of the block that a home is."""
        return self.place_count + 2 + home

    def block_of_place(self, place):
        """The number of the block that a place of the journal's ring is."""
        return 2 + place % self.place_count


class Head:
    def __init__(self, generation, shape, number, place):
        """From which transaction's number and place on the journal counts."""
        self.generation = generation
        self.shape = shape
        self.number = number
        self.place = place


class Transaction:
    def __init__(self, homes, blocks):
        """Homes, and the new block of each."""
        self.homes = homes
        self.blocks = blocks


def block_count_is_allowed(block_count):
    """Whether a disk may have so many blocks."""
    return block_count >= 8 and block_count <= 4096


def shape_is_allowed(block_count, place_count):
    """Whether a disk may have so many blocks, so many of them the journal's."""
    if not block_count_is_allowed(block_count):
        return False
    return place_count >= 4 and place_count <= block_count - 3


def homes_are_allowed(homes, home_count):
    """Whether one transaction may change these homes."""
    if len(homes) < 1 or len(homes) > MOST_HOMES:
        return False
    return len(set(homes)) == len(homes) and max(homes) < home_count


def split_blocks(data):
    """The whole blocks that lie in data one behind another."""
    return [data[at:at + BLOCK_SIZE] for at in range(0, len(data), BLOCK_SIZE)]


def letters(word):
    """A word's letters as bytes."""
    return [ord(letter) for letter in word]


def number_bytes(value, size):
    """A whole number as so many bytes, the lowest first."""
    return [(value >> (8 * k)) & 255 for k in range(size)]


def number_at(block, start, size):
    """The whole number that lies in a block from there on."""
    value = 0
    for byte in reversed(block[start:start + size]):
        value = value * 256 + byte
    return value


def head_block(head):
    """The block that a head is written as."""
    data = letters("TALLYDSK") + number_bytes(head.generation, 8)
    data.extend(number_bytes(head.shape.block_count, 4))
    data.extend(number_bytes(head.shape.place_count, 4))
    data.extend(number_bytes(head.number, 8))
    data.extend(number_bytes(head.place, 4))
    data.extend([0] * (HEAD_SUM_AT - len(data)))
    return data + number_bytes(sum_of(data), 4) + number_bytes(head.generation, 8)


def head_in(blocks, b):
    """The head in block b of a medium, or None if it isn't a right one."""
    block = blocks[b]
    shape = Shape(number_at(block, 16, 4), number_at(block, 20, 4))
    head = Head(number_at(block, 8, 8), shape, number_at(block, 24, 8), number_at(block, 32, 4))
    if head.generation % 2 != b or head.generation >= NUMBER_LIMIT:
        return None
    if shape.block_count != len(blocks) or not shape_is_allowed(shape.block_count, shape.place_count):
        return None
    if head.number >= NUMBER_LIMIT or head.place >= shape.place_count:
        return None
    if head_block(head) != block:
        return None
    return head


def transaction_blocks(number, transaction):
    """The blocks that a transaction is written as, place by place."""
    first = letters("TALLYTXN") + number_bytes(number, 8)
    first.extend(number_bytes(len(transaction.homes), 4) + [0] * 4)
    others = []
    for home, block in zip(transaction.homes, transaction.blocks):
        first.extend(number_bytes(home, 4) + number_bytes(sum_of(block), 4) + block[TAIL_AT:])
        others.append(block[:TAIL_AT] + number_bytes(number, 8))
    first.extend([0] * (TAIL_AT - len(first)) + number_bytes(number, 8))
    return [first] + others


def transaction_at(journal, place, number, home_count):
    """The transaction of that number from that place of the ring on, or None if it isn't there."""
    first = journal[place]
    count = number_at(first, 16, 4)
    # Asked first, so that no sums are worked out for what an older transaction left there.
    if number_at(first, 8, 8) != number or count + 1 > len(journal):
        return None
    written = [first]
    homes = []
    blocks = []
    for k in range(count):
        entry = ENTRIES_AT + ENTRY_SIZE * k
        lying = journal[(place + 1 + k) % len(journal)]
        written.append(lying)
        homes.append(number_at(first, entry, 4))
        blocks.append(lying[:TAIL_AT] + first[entry + 8:entry + ENTRY_SIZE])
    transaction = Transaction(homes, blocks)
    # Writing it again and comparing leaves no byte of the form unchecked.
    if homes_are_allowed(homes, home_count) and transaction_blocks(number, transaction) == written:
        return transaction
    return None
