"""Promises 1 (make) and 2 (read)."""

import unittest

from sparedisk.drive import Drive
from tests.lines import Case, ZEROS, block, commit, cut, first_numbers, flush, make, mend, read, run, settle
from tests.lines import written_head

LEAST = -2147483648


class MakeTest(Case):
    def test_sizes_that_are_allowed(self):
        for n, j in [(8, 4), (8, 5), (9, 6), (12, 5), (256, 4), (256, 253)]:
            self.assertEqual(run(make(n, j)), [[0]], (n, j))

    def test_sizes_that_are_refused(self):
        refused = [(7, 4), (0, 0), (-1, 4), (LEAST, 4), (7, 3), (8, 3), (8, 6), (8, 7), (8, 0), (8, -4), (8, LEAST),
                   (256, 254), (256, 2147483647), (9, 7), (4097, 4), (2147483647, 4)]
        for n, j in refused:
            self.assertEqual(run(make(n, j), read(0)), [[-2], [-6]], (n, j))

    def test_the_greatest_disk(self):
        self.assertEqual(Drive().make(4096, 4093), [0])
        self.assertEqual(Drive().make(4096, 4094), [-2])

    def test_the_medium(self):
        drive = Drive()
        drive.make(9, 5)
        heads = [written_head(0, 9, 5, 1, 0), written_head(1, 9, 5, 1, 0)]
        self.assertEqual(drive.medium.blocks, heads + [ZEROS] * 7)
        self.assertEqual(drive.medium.on_way, [])

    def test_it_runs_and_its_first_number_is_1(self):
        self.assertEqual(first_numbers(make(8, 4), flush(), settle(), mend(), commit([0], [block(1)])),
                         [0, 0, 0, -3, 1])

    def test_a_new_disk_takes_the_place_of_one_that_runs(self):
        got = run(make(8, 4), commit([0], [block(1)]), settle(), commit([1], [block(2)]),
                  make(9, 4), read(0), read(1), read(2), commit([0], [block(3)]), cut([512, 1536]), mend())
        self.assertEqual(got[4:], [[0], [0] + ZEROS, [0] + ZEROS, [0] + ZEROS, [1], [0], [1]])

    def test_what_was_on_its_way_to_the_old_disk_is_gone(self):
        got = first_numbers(make(8, 4), commit([0], [block(1)]), make(8, 4), cut([512, 1536]), mend())
        self.assertEqual(got, [0, 1, 0, 0, 0])

    def test_a_new_disk_takes_the_place_of_one_without_power(self):
        got = run(make(8, 4), commit([0], [block(1)]), flush(), cut(), make(8, 4), read(0), mend(), cut(), mend())
        self.assertEqual(got[4:], [[0], [0] + ZEROS, [-3], [0], [0]])

    def test_after_a_refusal_a_running_disk_stays(self):
        got = run(make(8, 4), commit([0], [block(1)]), make(7, 4), read(0), flush(), make(8, 3), cut(), mend(), read(0))
        self.assertEqual(got, [[0], [1], [-2], [0] + block(1), [0], [-2], [0], [1], [0] + block(1)])

    def test_after_a_refusal_what_is_on_its_way_stays_so(self):
        got = first_numbers(make(8, 4), commit([0], [block(1)]), make(8, 6), cut(), mend())
        self.assertEqual(got[2:], [-2, 0, 0])

    def test_after_a_refusal_a_disk_without_power_stays(self):
        got = run(make(8, 4), commit([0], [block(1)]), flush(), cut(), make(7, 4), read(0), mend(), read(0))
        self.assertEqual(got[4:], [[-2], [-6], [1], [0] + block(1)])


class ReadTest(Case):
    def test_a_home_never_written(self):
        self.assertEqual(run(make(8, 4), read(0), read(1))[1:], [[0] + ZEROS] * 2)

    def test_a_home_changed_and_not_settled(self):
        got = run(make(9, 4), commit([1], [block(1)]), read(0), read(1), read(2), flush(), read(1))
        self.assertEqual(got[2:], [[0] + ZEROS, [0] + block(1), [0] + ZEROS, [0], [0] + block(1)])

    def test_a_home_settled(self):
        got = run(make(9, 4), commit([1], [block(1)]), settle(), read(0), read(1), read(2))
        self.assertEqual(got[3:], [[0] + ZEROS, [0] + block(1), [0] + ZEROS])

    def test_the_newest_block(self):
        got = run(make(10, 6), commit([1], [block(1)]), settle(), commit([1], [block(2)]), read(1),
                  commit([1], [block(3)]), read(1), settle(), read(1))
        self.assertEqual([got[k] for k in (4, 6, 8)], [[0] + block(2), [0] + block(3), [0] + block(3)])

    def test_a_transaction_s_order_is_its_own(self):
        got = run(make(12, 5), commit([3, 0, 2], [block(1), block(2), block(3)]), read(0), read(1), read(2), read(3))
        self.assertEqual(got[2:], [[0] + block(2), [0] + ZEROS, [0] + block(3), [0] + block(1)])

    def test_homes_that_are_not_there(self):
        got = run(make(12, 5), read(-1), read(0), read(4), read(5), read(LEAST), read(2147483647))
        self.assertEqual(got[1:], [[-2], [0] + ZEROS, [0] + ZEROS, [-2], [-2], [-2]])

    def test_a_disk_that_does_not_run(self):
        self.assertEqual(run(read(0), read(-1)), [[-6], [-6]])
        got = run(make(8, 4), commit([0], [block(1)]), settle(), cut(), read(0), read(-1), read(2))
        self.assertEqual(got[4:], [[-6], [-6], [-6]])


if __name__ == "__main__":
    unittest.main()
