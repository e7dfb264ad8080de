"""Promise 6 (mend), and what it takes for a right head and for a transaction."""

import unittest

from sparedisk.drive import COMMIT, FLUSH, MEND, SETTLE, Drive
from sparedisk.finding import counting_head, found_on
from tests.lines import Case, ZEROS, block, commit, crc, cut, first_numbers, flush, joined, make, mend, read, run
from tests.lines import settle, whole, written_head, written_transaction


class MendTest(Case):
    def test_refusals(self):
        self.assertEqual(first_numbers(mend()), [-6])
        self.assertEqual(first_numbers(make(8, 4), mend(), cut(), mend(), mend()), [0, -3, 0, 0, -3])
        self.assertEqual(first_numbers(make(7, 4), mend(), read(0)), [-2, -6, -6])

    def test_a_refusal_changes_nothing(self):
        got = run(make(8, 4), commit([0], [block(1)]), mend(), read(0), commit([0], [block(2)]), cut(), mend(), read(0))
        self.assertEqual(got[2:], [[-3], [0] + block(1), [2], [0], [0], [0] + ZEROS])

    def test_without_a_right_head_the_disk_stays_as_it_was(self):
        drive = Drive()
        drive.make(8, 4)
        drive.cut([])
        drive.medium.blocks[0] = ZEROS
        drive.medium.blocks[1] = ZEROS
        self.assertEqual(drive.operate(MEND, [], []), [-6])
        self.assertEqual(drive.medium.blocks, [ZEROS] * 8)
        self.assertEqual(drive.read(0), [-6])

    def test_how_many_were_there(self):
        three = [commit([k], [block(k + 1)]) for k in range(3)]
        rows = [([], 0), (whole(0, 1), 1), (whole(0, 1, 2, 3), 2), (whole(0, 1, 2, 3, 4, 5), 3),
                (whole(0, 1, 4, 5), 1), (whole(2, 3, 4, 5), 0), (whole(0, 1, 2, 4, 5), 1), (whole(0, 1, 3, 4, 5), 1),
                (whole(5, 4, 3, 2, 1, 0), 3)]
        for arrived, count in rows:
            got = run(make(20, 10), *three, cut(arrived), mend(), *[read(k) for k in range(3)], commit([0], [ZEROS]))
            self.assertEqual(got[5], [count], arrived)
            for k in range(3):
                self.assertEqual(got[6 + k], [0] + (block(k + 1) if k < count else ZEROS), arrived)
            self.assertEqual(got[9], [1 + count + 10], arrived)

    def test_the_newest_block_of_each_home_is_read(self):
        got = run(make(20, 12), commit([0, 1], [block(1), block(2)]), commit([1, 2], [block(3), block(4)]),
                  commit([0], [block(5)]), flush(), cut(), mend(), read(0), read(1), read(2), cut(), mend(),
                  read(0), read(1), read(2))
        newest = [[0] + block(5), [0] + block(3), [0] + block(4)]
        self.assertEqual(got[6:], [[3]] + newest + [[0], [0]] + newest)

    def test_numbers_behind_it(self):
        one = commit([0], [block(1)])
        got = first_numbers(make(12, 5), cut(), mend(), one, one, cut(whole(0, 1, 2, 3)), mend(), one, settle(), one,
                            cut(), mend(), one)
        self.assertEqual(got, [0, 0, 0, 6, 7, 0, 2, 13, 0, 14, 0, 0, 19])

    def test_a_transaction_lost_before_is_not_found_behind_a_later_one(self):
        got = run(make(12, 6), commit([0], [block(1)]), commit([1], [block(2)]), cut(whole(2, 3)), mend(),
                  commit([0], [block(3)]), flush(), cut(), mend(), read(0), read(1))
        self.assertEqual(got[4:], [[0], [7], [0], [0], [1], [0] + block(3), [0] + ZEROS])

    def test_several_cuts_and_mendings(self):
        calls = [make(14, 7)]
        expected = [[0]]
        number = 1
        for turn in range(1, 20):
            kept, lost = block(turn), block(turn + 100)
            calls += [commit([turn % 5], [kept]), commit([turn % 5], [lost]), cut(whole(0, 1, 3)), mend(),
                      read(turn % 5)]
            expected += [[number], [number + 1], [0], [1], [0] + kept]
            number += 1 + 7
        self.assertEqual(run(*calls), expected)

    def test_the_journal_is_empty_behind_it(self):
        got = first_numbers(make(12, 4), commit([0, 1], [block(1)] * 2), flush(), cut(), mend(),
                            commit([0], [block(2)]), commit([0], [block(3)]), flush(), cut(), mend())
        self.assertEqual(got[-1], 2)

    def test_its_actions(self):
        drive = Drive()
        drive.make(12, 7)
        drive.operate(COMMIT, [2, 0], joined([block(1), block(2)]))
        drive.operate(COMMIT, [1, 2], joined([block(3), block(4)]))
        drive.operate(FLUSH, [], [])
        drive.cut([])
        homes = [(9, block(2)), (10, block(3)), (11, block(4))]
        actions = homes + [None, (0, written_head(2, 12, 7, 10, 6)), None]
        self.assertEqual(drive.operation(MEND, [], []).actions, actions)
        self.assertEqual(drive.operate(MEND, [], []), [2])
        drive.cut([])
        actions = [None, (1, written_head(3, 12, 7, 17, 6)), None]
        self.assertEqual(drive.operation(MEND, [], []).actions, actions)


def with_one_head(n, head):
    """A medium of n blocks with this block in its head's place and no other head."""
    medium = [ZEROS] * n
    medium[head[8] % 2] = head
    return medium


class HeadTest(Case):
    def test_right_heads(self):
        for head in [(0, 12, 5, 0, 0), (1, 12, 4, 1, 3), (2 ** 60 - 1, 12, 9, 2 ** 60 - 1, 8), (2, 8, 5, 300, 4)]:
            found = counting_head(with_one_head(head[1], written_head(*head)))
            self.assertIsNotNone(found, head)
            self.assertEqual((found.generation, found.number, found.place), (head[0], head[3], head[4]))

    def test_wrong_heads(self):
        for head in [(2 ** 60, 12, 5, 1, 0), (2 ** 64 - 1, 12, 5, 1, 0), (2, 12, 5, 2 ** 60, 0), (2, 12, 5, 1, 5),
                     (2, 12, 3, 1, 0), (2, 12, 0, 1, 0), (2, 12, 10, 1, 0), (2, 13, 5, 1, 0), (2, 11, 5, 1, 0)]:
            self.assertIsNone(counting_head(with_one_head(12, written_head(*head))), head)

    def test_a_head_in_the_other_block(self):
        medium = [written_head(3, 12, 5, 1, 0), written_head(2, 12, 5, 1, 0)] + [ZEROS] * 10
        self.assertIsNone(counting_head(medium))

    def test_each_byte_counts(self):
        head = written_head(2, 12, 5, 1, 0)
        for at in range(512):
            wrong = list(head)
            wrong[at] ^= 64
            self.assertIsNone(counting_head([wrong] + [ZEROS] * 11), at)

    def test_bytes_that_are_no_zeros_are_wrong_with_a_right_sum_too(self):
        for at in (36, 200, 499):
            head = written_head(2, 12, 5, 1, 0)
            head[at] = 1
            head[500:504] = list(crc(head[:500]).to_bytes(4, "little"))
            self.assertIsNone(counting_head([head] + [ZEROS] * 11), at)

    def test_the_greater_generation_counts(self):
        for even, odd in [(2, 1), (2, 3), (256, 255), (256, 257), (2 ** 40, 1)]:
            medium = [written_head(even, 12, 5, 1, 0), written_head(odd, 12, 5, 1, 0)] + [ZEROS] * 10
            self.assertEqual(counting_head(medium).generation, max(even, odd))


def medium_with(j, place, pieces, number=7):
    """A medium of 64 blocks with this number to be looked for at this place, and these blocks from there on."""
    medium = [written_head(0, 64, j, number, place)] + [ZEROS] * 63
    for k, piece in enumerate(pieces):
        medium[2 + (place + k) % j] = piece
    return medium


def its_own_last_block(s, homes, blocks):
    """The places of a transaction whose first place may serve as its last one, too.

    The sum of the last new block is 0, and that block's last 8 bytes are looked for, by which this sum is right: each
    of their bits changes the sum in its own way, whatever the others are, as in linear equations. Half of all homes
    have no such bytes.
    """
    def first_with(tail):
        first = written_transaction(s, homes, blocks + [ZEROS])[0]
        entry = 24 + 16 * (len(homes) - 1)
        first[entry + 4:entry + 16] = [0] * 4 + list(tail.to_bytes(8, "little"))
        return first

    def last_with(tail):
        return first_with(tail)[:504] + list(tail.to_bytes(8, "little"))

    left, tail = crc(last_with(0)), 0
    effects = []
    for bit in range(64):
        effect, bits = crc(last_with(1 << bit)) ^ crc(last_with(0)), 1 << bit
        for known, known_bits in effects:
            if effect ^ known < effect:
                effect, bits = effect ^ known, bits ^ known_bits
        if effect:
            effects = sorted(effects + [(effect, bits)], reverse=True)
    for effect, bits in effects:
        if left ^ effect < left:
            left, tail = left ^ effect, tail ^ bits
    assert left == 0, "these homes have no such bytes"
    return written_transaction(s, homes, blocks + [last_with(tail)])


class TransactionTest(Case):
    def count(self, j, place, pieces):
        return len(found_on(medium_with(j, place, pieces)).transactions)

    def test_right_ones(self):
        for j, homes in [(4, [0]), (4, [57, 0, 3]), (31, list(range(30))), (61, [0]), (40, list(range(21, -1, -1)))]:
            pieces = written_transaction(7, homes, [block(k) for k in range(len(homes))])
            for place in (0, 1, j - 1):
                found = found_on(medium_with(j, place, pieces))
                self.assertEqual([one.homes for one in found.transactions], [homes])
                self.assertEqual(found.transactions[0].blocks, [block(k) for k in range(len(homes))])
                self.assertEqual(found.place, (place + len(homes) + 1) % j)

    def test_several_until_one_is_not_there(self):
        pieces = []
        for number in (7, 8, 9, 11):
            pieces += written_transaction(number, [number], [block(number)])
        found = found_on(medium_with(20, 17, pieces))
        self.assertEqual([one.homes for one in found.transactions], [[7], [8], [9]])
        self.assertEqual(found.place, 3)

    def test_great_numbers(self):
        for number in (255, 2 ** 32 - 1, 2 ** 56 + 2 ** 50, 2 ** 60 - 1):
            pieces = written_transaction(number, [3], [block(1)]) + written_transaction(number + 1, [4], [block(2)])
            found = found_on(medium_with(20, 0, pieces, number))
            self.assertEqual([one.homes for one in found.transactions], [[3], [4]])

    def test_a_full_ring(self):
        pieces = []
        for number in range(7, 12):
            pieces += written_transaction(number, [number], [block(number)])
        found = found_on(medium_with(10, 3, pieces))
        self.assertEqual((len(found.transactions), found.place), (5, 3))

    def test_wrong_numbers_and_homes(self):
        self.assertEqual(self.count(20, 0, written_transaction(6, [0], [block(1)])), 0)
        self.assertEqual(self.count(20, 0, written_transaction(8, [0], [block(1)])), 0)
        self.assertEqual(self.count(20, 0, written_transaction(7, [41], [block(1)])), 1)
        for homes in ([], [42], [2 ** 32 - 1], [1, 1], [3, 42]):
            pieces = written_transaction(7, homes, [block(k) for k in range(len(homes))])
            self.assertEqual(self.count(20, 0, pieces), 0, homes)

    def test_more_homes_than_there_may_be(self):
        for count in (31, 32, 2 ** 31, 2 ** 32 - 1):
            pieces = written_transaction(7, list(range(30)), [block(0)] * 30)
            pieces[0][16:20] = list(count.to_bytes(4, "little"))
            self.assertEqual(self.count(40, 0, pieces + [block(0)] * 2), 0, count)

    def test_as_many_places_as_the_journal_has_and_more(self):
        self.assertEqual(self.count(4, 0, written_transaction(7, [0, 1, 2], [block(0)] * 3)), 1)
        pieces = its_own_last_block(7, [0, 1, 2, 4], [block(0)] * 3)
        self.assertEqual(pieces[4], pieces[0])
        self.assertEqual(self.count(5, 0, pieces), 1)
        self.assertEqual(self.count(4, 0, pieces[:4]), 0)

    def test_each_byte_counts(self):
        pieces = written_transaction(7, [5, 9], [block(1), block(2)])
        for which in range(3):
            for at in range(512):
                wrong = [list(piece) for piece in pieces]
                wrong[which][at] ^= 64
                self.assertEqual(self.count(20, 19, wrong), 0, (which, at))


if __name__ == "__main__":
    unittest.main()
