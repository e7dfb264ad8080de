"""Promise 9 (arrive)."""

import unittest

from tests.lines import Case, MOST, ZEROS, arrive, block, commit, cut, first_numbers, flush, load, look, make, mend
from tests.lines import on_medium, read, run, save, settle, told, whole, written_transaction

# One home's commit: write 0 is what the transaction is, to block 2, and write 1 the new block, to block 3.
BEFORE = [make(12, 5), commit([2], [block(1)])]
WRITTEN = written_transaction(1, [2], [block(1)])
# All eight numbers of told, with two writes on their way.
TOLD = [0, 12, 5, 5, 2, 2, 2, 1, 2]


def partly(*sizes):
    """What blocks 2 and 3 hold when so many bytes of each write have arrived."""
    return [[0] + WRITTEN[k][:size] + ZEROS[size:] for k, size in enumerate(sizes)]


class ArriveTest(Case):
    def check(self, arrived, *sizes):
        got = run(*BEFORE, arrive(arrived), on_medium(2), on_medium(3), told())
        self.assertEqual(got[2:], [[0]] + partly(*sizes) + [TOLD], arrived)

    def test_an_empty_row(self):
        self.check([], 0, 0)

    def test_no_bytes_a_part_all_and_more(self):
        for size in (0, 1, 100, 511, 512):
            self.check([size], size, 0)
            self.check([1024 + size], 0, size)
            self.check([1024 + size, 512], 512, size)
        for more in (513, 600, 1023):
            self.check([more], 512, 0)
            self.check([1024 + more], 0, 512)

    def test_writes_that_are_not_there(self):
        self.check([2 * 1024 + 512, 2 * 1024, 77 * 1024 + 5, MOST], 0, 0)
        self.check([MOST, 2 * 1024 + 512, 1024 + 30, 3 * 1024], 0, 30)

    def test_one_write_several_times(self):
        self.check([100, 300, 200], 300, 0)
        self.check([512, 0, 1], 512, 0)
        self.check([1024 + 7, 9, 1024 + 8, 9], 9, 8)

    def test_a_row_of_the_most_numbers(self):
        self.check([1] * 4095 + [1024 + 512], 1, 512)

    def test_the_block_s_other_bytes_stay(self):
        first, second = written_transaction(1, [0], [block(1)]), written_transaction(3, [0], [block(3)])
        # The third transaction lies where the first one lay: 4 places, 2 for each.
        got = run(make(12, 4), commit([0], [block(1)]), commit([0], [block(2)]), commit([0], [block(3)]),
                  arrive([9, 1024 + 200]), on_medium(2), on_medium(3))
        self.assertEqual(got[5:], [[0] + second[k][:size] + first[k][size:] for k, size in enumerate([9, 200])])

    def test_writes_stay_on_their_way_for_another_row(self):
        got = run(*BEFORE, arrive([5]), arrive([1024 + 60]), arrive([40, 1024 + 20]), on_medium(2), on_medium(3),
                  told())
        self.assertEqual(got[2:], [[0]] * 3 + partly(40, 60) + [TOLD])

    def test_they_are_counted_as_before_behind_it(self):
        got = run(*BEFORE, arrive(whole(0)), commit([3], [block(2)]), arrive([2 * 1024 + 50, 1024 + 3]), on_medium(2),
                  on_medium(3), on_medium(4), told())
        third = written_transaction(2, [3], [block(2)])[0]
        self.assertEqual(got[4:], [[0]] + partly(512, 3) + [[0] + third[:50] + ZEROS[50:],
                                                            [0, 12, 5, 5, 3, 4, 4, 1, 4]])

    def test_a_barrier_finds_them_still(self):
        got = run(*BEFORE, arrive([100]), flush(), on_medium(2), on_medium(3), told(), arrive([3]), on_medium(2))
        self.assertEqual(got[3:], [[0]] + partly(512, 512) + [TOLD[:8] + [0], [0]] + partly(512))
        got = run(*BEFORE, arrive([100]), settle(), on_medium(2), on_medium(3))
        self.assertEqual(got[4:], partly(512, 512))

    def test_a_cut_loses_them_and_leaves_what_arrived(self):
        got = run(*BEFORE, arrive([100, 1024 + 40]), cut(), on_medium(2), on_medium(3), arrive(whole(0, 1)),
                  on_medium(2), mend(), read(2))
        self.assertEqual(got[3:], [[0]] + partly(100, 40) + [[0]] + partly(100) + [[0], [0] + ZEROS])

    def test_a_cut_s_row_finds_them_still(self):
        got = run(*BEFORE, arrive(whole(1)), cut(whole(0)), mend(), read(2))
        self.assertEqual(got[3:], [[0], [1], [0] + block(1)])
        self.assertEqual(first_numbers(*BEFORE, arrive(whole(1, 0)), cut(), mend())[3:], [0, 1])

    def test_what_is_read_stays(self):
        self.assertEqual(run(*BEFORE, arrive([77]), read(2), read(1))[3:], [[0] + block(1), [0] + ZEROS])

    def test_nothing_on_its_way(self):
        got = run(make(8, 4), save(), arrive(whole(0, 1, 2)), save())
        self.assertEqual(got[2], [0])
        self.assertEqual(got[1], got[3])

    def test_a_disk_that_does_not_run(self):
        got = run(*BEFORE, cut(), save(), arrive(whole(0, 1)), save(), look(), told())
        self.assertEqual(got[4], [0])
        self.assertEqual(got[3], got[5])
        self.assertEqual(got[6:], [[0, 1, 1, 0, 0], [-6]])
        got = run(load([block(k) for k in range(8)]), arrive(whole(0)), on_medium(0))
        self.assertEqual(got, [[0], [0], [0] + block(0)])

    def test_a_disk_never_made(self):
        self.assertEqual(run(arrive(), arrive([512, MOST]), save(), told()), [[0], [0], [0], [-6]])


if __name__ == "__main__":
    unittest.main()
