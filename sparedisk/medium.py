"""The blocks that outlast the power, and the writes on their way to them."""

from sparedisk.layout import BLOCK_SIZE


class Medium:
    def __init__(self, blocks):
        """A medium of these blocks, with nothing on its way.

        A block is put in another's place as a whole and never changed itself,
        so that several may share one list.
        """
        self.blocks = blocks
        self.on_way = []

    def act(self, action):
        """Do an action: a pair of a block's number and what's written there, or None, a barrier."""
        if action is None:
            self.wait()
        else:
            self.on_way.append(action)

    def wait(self):
        """Let all that's on its way arrive."""
        for b, block in self.on_way:
            self.blocks[b] = block
        self.on_way = []

    def arrive(self, row):
        """Let those bytes arrive that a row tells of; the writes stay on their way."""
        for x in row:
            which = x // 1024
            if which < len(self.on_way):
                self.put_first_bytes(self.on_way[which], min(x % 1024, BLOCK_SIZE))

    def put_first_bytes(self, write, size):
        """Let the first bytes of a write arrive."""
        b = write[0]
        self.blocks[b] = write[1][:size] + self.blocks[b][size:]

    def lose(self):
        """Forget what hasn't arrived."""
        self.on_way = []
