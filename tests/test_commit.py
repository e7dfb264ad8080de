"""Promise 3 (commit)."""

import unittest

from sparedisk.drive import COMMIT, Drive
from tests.lines import Case, ZEROS, block, commit, cut, first_numbers, flush, joined, make, mend, read, run, settle
from tests.lines import whole, written_head, written_transaction


def blocks(count):
    return [block(k) for k in range(count)]


class CommitTest(Case):
    def test_numbers_stand_in_a_row(self):
        one = commit([0], [block(1)])
        self.assertEqual(first_numbers(make(12, 6), one, one, flush(), one, settle(), one, one, one, one),
                         [0, 1, 2, 0, 3, 0, 4, 5, 6, 7])

    def test_one_and_thirty_homes(self):
        order = list(range(35, 5, -1))
        got = run(make(70, 31), commit([36], blocks(1)), commit(order, blocks(30)), flush(), cut(), mend(),
                  read(35), read(20), read(6), read(5))
        self.assertEqual(got[1:], [[1], [2], [0], [0], [1], [0] + block(0), [0] + block(15), [0] + block(29),
                                   [0] + ZEROS])

    def test_what_is_no_transaction(self):
        homes = [[], list(range(31)), list(range(37)), [3, 3], [3, 4, 3], [37], [0, 37], [2147483647]]
        for wrong in homes:
            got = run(make(70, 31), commit(wrong, blocks(len(wrong))), read(0), commit([36], blocks(1)))
            self.assertEqual(got, [[0], [-2], [0] + ZEROS, [1]], wrong)

    def test_the_interface_s_most_homes(self):
        for wrong in (list(range(57)), [1] * 57):
            self.assertEqual(first_numbers(make(256, 100), commit(wrong, blocks(57))), [0, -2])

    def test_a_block_that_is_not_whole(self):
        drive = Drive()
        drive.make(8, 4)
        for size in (0, 511, 513, 1024):
            self.assertEqual(drive.operate(COMMIT, [0], [0] * size), [-2])
        self.assertEqual(drive.operate(COMMIT, [0], [0] * 512), [1])

    def test_more_places_than_the_journal_has(self):
        four = commit([0, 1, 2, 3], blocks(4))
        three = commit([0, 1, 2], blocks(3))
        self.assertEqual(first_numbers(make(12, 4), four, three), [0, -5, 1])
        self.assertEqual(first_numbers(make(12, 5), four, three), [0, 1, 2])
        self.assertEqual(first_numbers(make(70, 30), commit(range(30), blocks(30)), commit(range(29), blocks(29))),
                         [0, -5, 1])

    def test_which_refusal_comes_first(self):
        twice = commit([0, 1, 2, 2], blocks(4))
        beyond = commit([0, 1, 2, 6], blocks(4))
        many = commit(range(31), blocks(31))
        self.assertEqual(first_numbers(make(12, 4), twice, beyond, many), [0, -2, -2, -2])
        fine = commit([0], blocks(1))
        too_large = commit([0, 1, 2, 3], blocks(4))
        self.assertEqual(first_numbers(fine, twice, too_large), [-6, -6, -6])
        self.assertEqual(first_numbers(make(12, 4), cut(), twice, beyond, many, too_large, fine, commit([], [])),
                         [0, 0] + [-6] * 6)

    def test_a_refusal_changes_nothing(self):
        got = run(make(12, 4), commit([0], [block(1)]), commit([0, 1, 2, 3], blocks(4)), commit([1, 1], blocks(2)),
                  read(0), commit([1], [block(2)]), cut(whole(0, 1, 2, 3)), mend(), read(0), read(1))
        self.assertEqual(got[2:], [[-5], [-2], [0] + block(1), [2], [0], [2], [0] + block(1), [0] + block(2)])

    def test_it_is_not_waited_for(self):
        got = run(make(12, 5), commit([0], [block(1)]), cut(), mend(), read(0))
        self.assertEqual(got[2:], [[0], [0], [0] + ZEROS])

    def test_places_that_just_suffice_make_nothing_settle(self):
        got = first_numbers(make(12, 5), commit([0, 1], blocks(2)), commit([2], blocks(1)), cut(), mend())
        self.assertEqual(got, [0, 1, 2, 0, 0])
        got = run(make(12, 5), commit([0], [block(1)]), commit([1, 2], blocks(2)), cut(), mend(), read(0))
        self.assertEqual(got[4:], [[0], [0] + ZEROS])

    def test_one_place_too_few_makes_the_disk_settle_first(self):
        got = run(make(12, 4), commit([0, 1], [block(1), block(2)]), commit([1], [block(3)]), read(1), cut(), mend(),
                  read(0), read(1), commit([1], [block(4)]))
        self.assertEqual(got[2:], [[2], [0] + block(3), [0], [0], [0] + block(1), [0] + block(2), [6]])

    def test_only_the_new_one_is_in_the_journal_behind_that(self):
        got = run(make(12, 4), commit([0, 1], [block(1), block(2)]), commit([1], [block(3)]), flush(), cut(), mend(),
                  read(0), read(1))
        self.assertEqual(got[4:], [[0], [1], [0] + block(1), [0] + block(3)])

    def test_places_are_free_again_behind_a_settling_of_its_own(self):
        got = run(make(12, 5), commit([0, 1], [block(1), block(2)]), commit([1, 2], [block(3), block(4)]),
                  commit([0], [block(5)]), cut(), mend(), read(0), read(1), read(2))
        self.assertEqual(got[4:], [[0], [0], [0] + block(1), [0] + block(2), [0] + ZEROS])

    def test_heads_of_settlings_of_its_own_take_turns(self):
        drive = Drive()
        drive.make(12, 4)
        for k in range(1, 6):
            self.assertEqual(drive.operate(COMMIT, [0, 1], joined([block(k), block(k + 5)])), [k])
        self.assertEqual(drive.medium.blocks[0], written_head(4, 12, 4, 4, 1))
        self.assertEqual(drive.medium.blocks[1], written_head(5, 12, 4, 5, 0))

    def test_only_doing_it_changes_what_is_read(self):
        drive = Drive()
        drive.make(12, 5)
        drive.operate(COMMIT, [0], block(1))
        for homes in ([0], [1], [0, 1, 2, 3]):
            drive.operation(COMMIT, homes, block(2) * len(homes))
            self.assertEqual([drive.read(0), drive.read(1)], [[0] + block(1), [0] + ZEROS])
            self.assertEqual(len(drive.medium.on_way), 2)

    def test_the_ring_comes_round(self):
        for j in range(4, 12):
            calls = [make(20, j)]
            newest = {}
            for k in range(25):
                homes = [(k + m) % 5 for m in range(1 + k % 3)]
                new = [block((7 * k + m) % 250) for m in range(len(homes))]
                newest.update(zip(homes, new))
                calls += [commit(homes, new)]
            calls += [flush(), cut(), mend()] + [read(k) for k in range(5)]
            got = run(*calls)
            self.assertEqual(got[1:26], [[k + 1] for k in range(25)])
            self.assertGreaterEqual(got[28][0], 1)
            self.assertEqual(got[29:], [[0] + newest[k] for k in range(5)])

    def test_a_transaction_over_the_ring_s_end(self):
        got = run(make(12, 5), commit([0, 1], blocks(2)), settle(), commit([3, 1, 4], [block(7), block(8), block(9)]),
                  flush(), cut(), mend(), read(0), read(1), read(3), read(4))
        self.assertEqual(got[6:], [[1], [0] + block(0), [0] + block(8), [0] + block(7), [0] + block(9)])

    def test_what_is_written_where(self):
        drive = Drive()
        drive.make(12, 5)
        first = [block(1), block(2)]
        second = [block(3), block(4), block(5)]
        drive.operate(COMMIT, [4, 0], joined(first))
        self.assertEqual(drive.medium.on_way, list(zip([2, 3, 4], written_transaction(1, [4, 0], first))))
        drive.operate(COMMIT, [3, 0, 1], joined(second))
        self.assertEqual(drive.medium.on_way, list(zip([5, 6, 2, 3], written_transaction(2, [3, 0, 1], second))))


if __name__ == "__main__":
    unittest.main()
