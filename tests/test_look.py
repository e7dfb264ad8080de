"""Promise 12 (look)."""

import unittest

from tests.lines import Case, MEND, SETTLE, ZEROS, arrive, block, commit, cut, cut_in, flush, load, look, make, mend
from tests.lines import run, save, settle, told, whole, written_head, written_transaction


def new(count):
    return [block(k) for k in range(count)]


class LookTest(Case):
    def check(self, calls, *numbers):
        """The generation, number and place, how many transactions, and of each how many homes and these."""
        self.assertEqual(run(*calls, look())[-1], [0] + list(numbers))

    def test_no_transaction(self):
        self.check([make(8, 4)], 1, 1, 0, 0)
        self.check([make(8, 4), cut()], 1, 1, 0, 0)
        self.check([make(8, 4), commit([0], new(1)), settle()], 2, 2, 2, 0)
        self.check([make(8, 4), cut(), mend()], 2, 5, 0, 0)

    def test_only_what_has_arrived_is_there(self):
        calls = [make(20, 7), commit([3, 0], new(2))]
        self.check(calls, 1, 1, 0, 0)
        self.check(calls + [arrive(whole(0, 1))], 1, 1, 0, 0)
        self.check(calls + [arrive(whole(0, 1)), arrive([2 * 1024 + 500])], 1, 1, 0, 0)
        self.check(calls + [arrive(whole(2, 1, 0))], 1, 1, 0, 1, 2, 3, 0)
        self.check(calls + [flush()], 1, 1, 0, 1, 2, 3, 0)
        self.check(calls + [cut()], 1, 1, 0, 0)
        self.check(calls + [flush(), cut()], 1, 1, 0, 1, 2, 3, 0)

    def test_one_of_the_most_homes(self):
        order = list(range(29, -1, -1))
        self.check([make(64, 31), commit(order, new(30)), flush()], 1, 1, 0, 1, 30, *order)

    def test_several(self):
        calls = [make(20, 9), commit([3], new(1)), commit([3, 0, 1], new(3)), commit([8], new(1))]
        self.check(calls + [flush()], 1, 1, 0, 3, 1, 3, 3, 3, 0, 1, 1, 8)
        self.check(calls + [cut(whole(0, 1, 6, 7))], 1, 1, 0, 1, 1, 3)
        self.check(calls + [cut(whole(2, 3, 4, 5, 6, 7))], 1, 1, 0, 0)
        self.check(calls + [cut(whole(0, 1, 2, 3, 4, 5))], 1, 1, 0, 2, 1, 3, 3, 3, 0, 1)

    def test_the_ring_coming_round(self):
        calls = [make(20, 7), commit([1, 2, 3, 4], new(4)), settle(), commit([5, 6], new(2)), commit([7, 0], new(2))]
        self.check(calls + [flush()], 2, 2, 5, 2, 2, 5, 6, 2, 7, 0)
        self.check(calls + [flush(), cut(), mend()], 3, 11, 4, 0)
        self.check(calls + [flush(), cut(), mend(), commit([9], new(1)), flush()], 3, 11, 4, 1, 1, 9)

    def test_a_full_ring(self):
        calls = [make(20, 6)] + [commit([k], new(1)) for k in range(3)]
        self.check(calls + [flush()], 1, 1, 0, 3, 1, 0, 1, 1, 1, 2)

    def test_a_commit_that_settled_first(self):
        calls = [make(20, 4), commit([0, 1], new(2)), commit([5], new(1))]
        self.check(calls, 2, 2, 3, 0)
        self.check(calls + [flush()], 2, 2, 3, 1, 1, 5)

    def test_a_torn_head(self):
        calls = [make(12, 5), commit([2, 1], new(2)), settle(), commit([4], new(1))]
        # A barrier, a home, a barrier and the head, which takes the place of generation 1.
        for size in (0, 8):
            self.check(calls + [cut_in(4, SETTLE, [size])], 2, 2, 3, 1, 1, 4)
        for size in (9, 100, 503, 504):
            self.check(calls + [cut_in(4, SETTLE, [size])], 2, 2, 3, 1, 1, 4)
        for size in (505, 512):
            self.check(calls + [cut_in(4, SETTLE, [size])], 3, 3, 0, 0)
        # The mending's head is torn, and then the next one's, too.
        torn = [make(12, 5), commit([2], new(1)), flush(), cut_in(9, MEND), cut(), cut_in(3, MEND, [300])]
        self.check(torn, 1, 1, 0, 1, 1, 2)
        self.check(torn + [cut_in(3, MEND, [12])], 1, 1, 0, 1, 1, 2)
        self.check(torn + [mend()], 2, 7, 2, 0)

    def test_the_greater_generation_counts(self):
        for even, odd in [(2, 1), (2, 3), (256, 255), (2 ** 40, 2 ** 40 + 1), (2 ** 60 - 2, 2 ** 60 - 1)]:
            heads = [written_head(even, 12, 5, 3, 2), written_head(odd, 12, 4, 9, 1)]
            expected = [even, 3, 2, 0] if even > odd else [odd, 9, 1, 0]
            self.check([load(heads + [ZEROS] * 10)], *expected)

    def test_the_journal_is_that_of_the_head_that_counts(self):
        pieces = written_transaction(4, [0], [block(1)]) + written_transaction(5, [2], [block(2)])
        for head, expected in [((2, 12, 5, 4, 0), [2, 4, 0, 2, 1, 0, 1, 2]), ((2, 12, 5, 5, 2), [2, 5, 2, 1, 1, 2]),
                               ((2, 12, 5, 4, 2), [2, 4, 2, 0]), ((2, 12, 5, 5, 1), [2, 5, 1, 0]),
                               ((2, 12, 8, 4, 0), [2, 4, 0, 1, 1, 0])]:
            self.check([load([written_head(*head), ZEROS] + pieces + [ZEROS] * 6)], *expected)

    def test_without_a_right_head(self):
        none = [[], [make(7, 4)], [load([ZEROS] * 8)], [load([block(k) for k in range(8)])],
                [load([ZEROS] * 8), mend()], [make(8, 4), load([ZEROS] * 8)],
                [load([written_head(1, 8, 4, 1, 0), written_head(0, 8, 4, 1, 0)] + [ZEROS] * 6)]]
        for calls in none:
            self.assertEqual(run(*calls, look())[-1], [-6])

    def test_mending_finds_just_that(self):
        calls = [make(20, 9), commit([3], new(1)), commit([3, 0, 1], new(3)), cut(whole(0, 1, 2, 3, 5))]
        got = run(*calls, look(), mend(), told())
        self.assertEqual(got[4:], [[0, 1, 1, 0, 1, 1, 3], [1], [0, 20, 9, 9, 11, 2, 0, 2, 0]])

    def test_it_changes_nothing(self):
        calls = [make(20, 9), commit([3], new(1)), flush(), commit([3, 0], new(2)), arrive([600, 1024 + 30])]
        got = run(*calls, save(), told(), look(), look(), save(), told())[5:]
        self.assertEqual(got[:2], got[4:])
        self.assertEqual(got[2:4], [[0, 1, 1, 0, 1, 1, 3]] * 2)
        got = run(*calls, cut(), save(), look(), save(), told())[6:]
        self.assertEqual(got[0], got[2])
        self.assertEqual(got[3], [-6])


if __name__ == "__main__":
    unittest.main()
