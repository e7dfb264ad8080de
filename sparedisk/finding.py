"""What mending finds on a medium."""

from sparedisk.layout import head_in, transaction_at


class Found:
    def __init__(self, head, transactions, place):
        """The head that counts, the transactions there are from it on, and the place behind them."""
        self.head = head
        self.transactions = transactions
        self.place = place


def counting_head(blocks):
    """The right head of the greater generation, or None if no head is right."""
    # A disk that was never made has no blocks for heads to lie in.
    if len(blocks) == 0:
        return None
    even = head_in(blocks, 0)
    odd = head_in(blocks, 1)
    if even is None:
        return odd
    if odd is None or even.generation > odd.generation:
        return even
    return odd


def found_on(blocks):
    """What mending finds on these blocks, or None if no head is right."""
    head = counting_head(blocks)
    if head is None:
        return None
    shape = head.shape
    journal = blocks[2:shape.place_count + 2]
    transactions = []
    place = head.place
    while len(transactions) < shape.place_count:
        number = head.number + len(transactions)
        transaction = transaction_at(journal, place, number, shape.home_count)
        if transaction is None:
            break
        transactions.append(transaction)
        place = (place + 1 + len(transaction.homes)) % shape.place_count
    return Found(head, transactions, place)
