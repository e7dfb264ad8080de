"""Promises 4 (flush) and 5 (settle)."""

import unittest

from sparedisk.drive import COMMIT, SETTLE, Drive
from tests.lines import Case, ZEROS, block, commit, cut, first_numbers, flush, joined, make, mend, read, run, settle
from tests.lines import whole, written_head, written_transaction


class FlushTest(Case):
    def test_it_answers_0(self):
        self.assertEqual(first_numbers(make(8, 4), flush(), commit([0], [block(1)]), flush(), flush()),
                         [0, 0, 1, 0, 0])

    def test_a_disk_that_does_not_run(self):
        self.assertEqual(first_numbers(flush(), make(8, 4), cut(), flush()), [-6, 0, 0, -6])

    def test_what_was_on_its_way_has_arrived(self):
        got = run(make(12, 6), commit([0], [block(1)]), commit([1], [block(2)]), flush(), commit([0], [block(3)]),
                  cut(), mend(), read(0), read(1))
        self.assertEqual(got[6:], [[2], [0] + block(1), [0] + block(2)])

    def test_writes_are_counted_anew_behind_it(self):
        got = first_numbers(make(12, 6), commit([0], [block(1)]), flush(), commit([0], [block(2)]), cut(whole(0, 1)),
                            mend())
        self.assertEqual(got[-1], 2)

    def test_it_frees_no_place(self):
        got = first_numbers(make(12, 4), commit([0, 1], [block(1)] * 2), flush(), commit([0], [block(2)]), flush(),
                            cut(), mend())
        self.assertEqual(got[-1], 1)


class SettleTest(Case):
    def test_it_answers_0(self):
        self.assertEqual(first_numbers(make(8, 4), settle(), commit([0], [block(1)]), settle(), settle()),
                         [0, 0, 1, 0, 0])

    def test_a_disk_that_does_not_run(self):
        self.assertEqual(first_numbers(settle(), make(8, 4), cut(), settle()), [-6, 0, 0, -6])

    def test_nothing_is_found_in_the_journal_behind_it(self):
        got = run(make(12, 6), commit([0, 1], [block(1), block(2)]), commit([1], [block(3)]), settle(), cut(), mend(),
                  read(0), read(1), read(2), commit([0], [block(4)]))
        self.assertEqual(got[5:], [[0], [0] + block(1), [0] + block(3), [0] + ZEROS, [9]])

    def test_all_places_are_free_behind_it(self):
        got = first_numbers(make(12, 4), commit([0, 1], [block(1)] * 2), settle(), commit([0], [block(2)]),
                            commit([0], [block(3)]), flush(), cut(), mend())
        self.assertEqual(got[-1], 2)

    def test_it_does_nothing_where_no_place_is_taken(self):
        drive = Drive()
        drive.make(12, 5)
        self.assertEqual(drive.operation(SETTLE, [], []).actions, [])
        drive.operate(COMMIT, [0], block(1))
        drive.operate(SETTLE, [], [])
        before = list(drive.medium.blocks)
        self.assertEqual(drive.operation(SETTLE, [], []).actions, [])
        self.assertEqual(drive.operate(SETTLE, [], []), [0])
        self.assertEqual(drive.medium.blocks, before)

    def test_its_actions(self):
        drive = Drive()
        drive.make(12, 7)
        drive.operate(COMMIT, [2, 0], joined([block(1), block(2)]))
        drive.operate(COMMIT, [1, 2], joined([block(3), block(4)]))
        head = written_head(2, 12, 7, 3, 6)
        homes = [(9, block(2)), (10, block(3)), (11, block(4))]
        self.assertEqual(drive.operation(SETTLE, [], []).actions, [None] + homes + [None, (0, head), None])
        drive.operate(SETTLE, [], [])
        journal = written_transaction(1, [2, 0], [block(1), block(2)])
        journal += written_transaction(2, [1, 2], [block(3), block(4)])
        self.assertEqual(drive.medium.blocks, [head, written_head(1, 12, 7, 1, 0)] + journal + [ZEROS]
                         + [block(2), block(3), block(4)])

    def test_heads_take_turns(self):
        drive = Drive()
        drive.make(12, 5)
        for k in range(1, 6):
            drive.operate(COMMIT, [0], block(k))
            drive.operate(SETTLE, [], [])
        self.assertEqual(drive.medium.blocks[0], written_head(6, 12, 5, 6, 0))
        self.assertEqual(drive.medium.blocks[1], written_head(5, 12, 5, 5, 3))


if __name__ == "__main__":
    unittest.main()
