"""Promises 7 (cut) and 8 (cut in)."""

import unittest

from sparedisk.drive import Drive
from sparedisk.medium import Medium
from tests.lines import Case, COMMIT, FLUSH, MEND, MOST, SETTLE, ZEROS, block, commit, cut, cut_in, first_numbers, flush
from tests.lines import make, mend, read, run, settle, whole


class CutTest(Case):
    def check(self, arrived, count):
        """One home's commit and a cut: the writes are 0, what the transaction is, and 1, the block."""
        got = run(make(12, 5), commit([2], [block(1)]), cut(arrived), mend(), read(2))
        self.assertEqual(got[2:], [[0], [count], [0] + (block(1) if count else ZEROS)], arrived)

    def test_none_and_all(self):
        self.check([], 0)
        self.check([512, 1536], 1)
        self.check([1536, 512], 1)
        self.check([512], 0)
        self.check([1536], 0)

    def test_more_than_512_bytes(self):
        self.check([1023, 2047], 1)
        self.check([513, 1024 + 600], 1)

    def test_no_bytes(self):
        self.check([0, 1024], 0)
        self.check([0, 512, 1024, 1536], 1)

    def test_parts(self):
        # Behind byte 504 there are zeros as they were before: the number's upper bytes.
        for size in (1, 8, 40, 100, 503, 504):
            self.check([size, 1536], 0)
            self.check([512, 1024 + size], 0)
        self.check([505, 1536], 1)
        self.check([512, 1024 + 505], 1)

    def test_a_part_leaves_the_block_s_other_bytes_as_they_were(self):
        drive = Drive()
        drive.make(12, 4)
        for number in (1, 2):
            drive.operate(COMMIT, [0], block(number))
            drive.operate(SETTLE, [], [])
            drive.operate(COMMIT, [1], block(number + 50))
            places = [write[0] for write in drive.medium.on_way]
            writes = [write[1] for write in drive.medium.on_way]
            before = [drive.medium.blocks[b] for b in places]
            drive.cut([100, 1024 + 300])
            self.assertEqual([drive.medium.blocks[b] for b in places],
                             [writes[0][:100] + before[0][100:], writes[1][:300] + before[1][300:]])
            drive.operate(MEND, [], [])

    def test_one_number_after_another(self):
        medium = Medium([ZEROS] * 3)
        medium.act((1, block(1)))
        medium.act((1, block(2)))
        medium.act((2, block(3)))
        medium.arrive([1024 + 400, 300, 1024 + 200, 2048 + 7, 2048 + 3])
        self.assertEqual(medium.blocks, [ZEROS, block(2)[:200] + block(1)[200:300] + block(2)[300:400] + ZEROS[400:],
                                         block(3)[:7] + ZEROS[7:]])

    def test_one_byte_and_all_but_one(self):
        for size in (0, 1, 511, 512, 513, 1023):
            medium = Medium([ZEROS] * 4)
            for b in range(4):
                medium.act((b, block(b + 1)))
            medium.arrive([3 * 1024 + size, 2 * 1024 + size])
            for b in range(4):
                there = size if b > 1 else 0
                self.assertEqual(medium.blocks[b], (block(b + 1)[:there] + ZEROS[there:])[:512], (b, size))

    def test_all_arrives_in_the_order_in_which_it_was_written(self):
        medium = Medium([ZEROS] * 3)
        for action in [(1, block(1)), (2, block(3)), (1, block(2)), None]:
            medium.act(action)
        self.assertEqual((medium.blocks, medium.on_way), ([ZEROS, block(2), block(3)], []))

    def test_writes_that_are_not_there(self):
        self.check([512, 1536, 2560, 1024 * 77, MOST], 1)
        self.check([2560, 3584, MOST], 0)

    def test_one_write_several_times(self):
        self.check([512, 512, 1536, 1536], 1)
        self.check([100, 512, 200, 1536, 1024], 1)
        self.check([512, 1024 + 100, 1024 + 200, 1024 + 504], 0)
        self.check([3, 512] * 1000 + [1025, 1536] * 1000, 1)

    def test_a_row_of_the_most_numbers(self):
        self.check([512] * 4095 + [1536], 1)

    def test_a_disk_that_does_not_run(self):
        self.assertEqual(first_numbers(cut(), cut([512]), read(0), mend()), [0, 0, -6, -6])
        got = run(make(12, 5), commit([0], [block(1)]), cut(), cut([512, 1536]), mend(), read(0))
        self.assertEqual(got[3:], [[0], [0], [0] + ZEROS])

    def test_what_the_running_disk_knew_is_lost(self):
        got = first_numbers(make(12, 5), commit([0], [block(1)]), cut(), read(0), commit([0], [block(1)]), flush(),
                            settle())
        self.assertEqual(got[2:], [0, -6, -6, -6, -6])

    def test_the_power_may_go_while_nothing_is_on_its_way(self):
        got = run(make(12, 5), commit([0], [block(1)]), settle(), cut([512, 1536, 2560]), mend(), read(0))
        self.assertEqual(got[3:], [[0], [0], [0] + block(1)])


class CutInTest(Case):
    def check(self, before, cutting, count, reads, number):
        """What mending answers behind these calls, what homes 0 and on read as, and the next number."""
        calls = list(before) + [cutting, read(0), mend()] + [read(k) for k in range(len(reads))]
        got = run(*calls, commit([0], [ZEROS]))[len(before):]
        self.assertEqual(got[:3], [[0], [-6], [count]], cutting[:9])
        self.assertEqual(got[3:-1], [[0] + one for one in reads], cutting[:9])
        self.assertEqual(got[-1], [number], cutting[:9])

    def test_in_a_commit(self):
        before = [make(12, 5), commit([0], [block(1)]), flush()]
        old, new = [block(1)], [block(2)]
        for after, arrived, arrives in [(0, [], False), (0, whole(0, 1), False), (1, whole(0, 1), False),
                                        (2, [], False), (2, whole(0), False), (2, whole(1), False),
                                        (2, [300, 1536], False), (2, whole(0, 1), True), (3, whole(0, 1), True),
                                        (MOST, whole(1, 0), True), (MOST, [], False)]:
            cutting = cut_in(after, COMMIT, arrived, [0], new)
            self.check(before, cutting, 2 if arrives else 1, new if arrives else old, 8 if arrives else 7)

    def test_in_a_commit_behind_writes_on_their_way(self):
        before = [make(12, 5), commit([0], [block(1)])]
        for after, arrived, count in [(0, whole(0, 1, 2, 3), 1), (1, whole(0, 1, 2, 3), 1), (2, whole(0, 1, 2, 3), 2),
                                      (2, whole(2, 3), 0), (2, whole(0, 1), 1), (2, [], 0)]:
            self.check(before, cut_in(after, COMMIT, arrived, [0], [block(2)]), count,
                       [[ZEROS, block(1), block(2)][count]], 6 + count)

    def test_in_a_commit_that_settles_first(self):
        before = [make(12, 4), commit([2, 0, 1], [block(3), block(1), block(2)])]
        none, old = [ZEROS] * 3, [block(1), block(2), block(3)]
        new = [block(1), block(9), block(3)]
        # A barrier, three homes, a barrier, the head, a barrier, then the two places.
        table = [(0, [], 0, none, 5), (0, whole(0, 1, 2, 3), 1, old, 6), (1, [], 1, old, 6), (3, whole(0, 1), 1, old, 6),
                 (4, [100, 1024 + 77], 1, old, 6), (5, [], 1, old, 6), (6, [], 1, old, 6), (6, [504], 1, old, 6),
                 (6, whole(0), 0, old, 6), (7, [], 0, old, 6), (8, whole(0, 1), 0, old, 6), (9, [], 0, old, 6),
                 (9, whole(1), 0, old, 6), (9, whole(0, 1), 1, new, 7), (10, whole(0, 1), 1, new, 7)]
        for after, arrived, count, reads, number in table:
            self.check(before, cut_in(after, COMMIT, arrived, [1], [block(9)]), count, reads, number)

    def test_in_a_flush(self):
        before = [make(12, 5), commit([0], [block(1)])]
        self.check(before, cut_in(0, FLUSH), 0, [ZEROS], 6)
        self.check(before, cut_in(0, FLUSH, whole(0)), 0, [ZEROS], 6)
        self.check(before, cut_in(0, FLUSH, whole(0, 1)), 1, [block(1)], 7)
        for after in (1, 2, MOST):
            self.check(before, cut_in(after, FLUSH), 1, [block(1)], 7)
            self.check(before, cut_in(after, FLUSH, [100, 1024]), 1, [block(1)], 7)

    def test_in_a_settling(self):
        before = [make(12, 5), commit([1, 0], [block(2), block(1)])]
        none, new = [ZEROS] * 2, [block(1), block(2)]
        # A barrier, two homes, a barrier, the head, a barrier.
        table = [(0, [], 0, none, 6), (0, whole(0, 1), 0, none, 6), (0, whole(0, 1, 2), 1, new, 7), (1, [], 1, new, 7),
                 (2, [200], 1, new, 7), (3, [200, 1024 + 300], 1, new, 7), (3, whole(1), 1, new, 7),
                 (4, [], 1, new, 7), (4, whole(0), 1, new, 7), (5, [], 1, new, 7), (5, [504], 1, new, 7),
                 (5, [505], 0, new, 7), (5, whole(0), 0, new, 7), (6, [], 0, new, 7), (7, [], 0, new, 7),
                 (MOST, whole(0, 1, 2), 0, new, 7)]
        for after, arrived, count, reads, number in table:
            self.check(before, cut_in(after, SETTLE, arrived), count, reads, number)

    def test_in_a_settling_with_nothing_taken(self):
        before = [make(12, 5), commit([0], [block(1)]), settle()]
        for after in (0, 1, MOST):
            self.check(before, cut_in(after, SETTLE, whole(0, 1, 2)), 0, [block(1)], 7)

    def test_in_a_mending(self):
        before = [make(12, 5), commit([1, 0], [block(2), block(1)]), flush(), cut()]
        new = [block(1), block(2)]
        # Two homes, a barrier, the head, a barrier.
        table = [(0, [], 1, 7), (1, [100], 1, 7), (2, [], 1, 7), (2, [100, 1024 + 400], 1, 7), (2, whole(0, 1), 1, 7),
                 (3, [], 1, 7), (3, whole(0), 1, 7), (4, [], 1, 7), (4, [504], 1, 7), (4, [505], 0, 12),
                 (4, whole(0), 0, 12), (5, [], 0, 12), (6, [], 0, 12), (MOST, [], 0, 12)]
        for after, arrived, count, number in table:
            self.check(before, cut_in(after, MEND, arrived), count, new, number)

    def test_in_one_mending_behind_another(self):
        before = [make(12, 5), commit([1, 0], [block(2), block(1)]), flush(), cut()]
        new = [block(1), block(2)]
        for first in range(4):
            for second in range(4):
                before_both = before + [cut_in(first, MEND, [9, 1024 + 99]), cut_in(second, MEND, [77, 1024 + 7])]
                self.check(before_both, cut([]), 1, new, 7)
        self.check(before + [cut_in(5, MEND), cut_in(3, MEND)], cut(), 0, new, 17)

    def test_a_mending_that_finds_nothing(self):
        before = [make(12, 5), cut()]
        # A barrier, the head, a barrier.
        for after, arrived, number in [(0, [], 6), (1, whole(0), 6), (2, [], 6), (2, whole(0), 11), (3, [], 11)]:
            self.check(before, cut_in(after, MEND, arrived), 0, [ZEROS], number)

    def test_an_operation_that_is_refused_is_as_a_cut(self):
        before = [make(12, 4), commit([0], [block(1)])]
        four = [block(5)] * 4
        refused = [(COMMIT, [99], four[:1]), (COMMIT, [], []), (COMMIT, [1, 1], four[:2]), (COMMIT, [0, 1, 2, 3], four),
                   (MEND, [], [])]
        for kind, homes, blocks in refused:
            for after in (0, 1, MOST):
                self.check(before, cut_in(after, kind, [], homes, blocks), 0, [ZEROS], 5)
                self.check(before, cut_in(after, kind, whole(0, 1), homes, blocks), 1, [block(1)], 6)

    def test_a_disk_that_does_not_run(self):
        for kind in (COMMIT, FLUSH, SETTLE):
            homes, blocks = ([0], [block(2)]) if kind == COMMIT else ([], [])
            cutting = cut_in(MOST, kind, whole(0, 1), homes, blocks)
            self.assertEqual(first_numbers(cutting, mend(), read(0)), [0, -6, -6])
            self.check([make(12, 5), commit([0], [block(1)]), flush(), cut()], cutting, 1, [block(1)], 7)

    def test_a_mending_without_a_disk(self):
        self.assertEqual(first_numbers(cut_in(0, MEND), cut_in(9, MEND, [512]), mend()), [0, 0, -6])


if __name__ == "__main__":
    unittest.main()
