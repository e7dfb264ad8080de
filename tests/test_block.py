"""Promise 11 (block)."""

import unittest

from tests.lines import Case, MOST, SETTLE, ZEROS, arrive, block, commit, cut, cut_in, flush, load, make, mend
from tests.lines import on_medium, run, settle, whole, written_head, written_transaction

NEW = [block(1), block(2)]
JOURNAL = written_transaction(1, [3, 0], NEW)
HEADS = [written_head(0, 12, 5, 1, 0), written_head(1, 12, 5, 1, 0)]


class BlockTest(Case):
    def medium(self, *calls):
        """All blocks that are there behind these calls, each as it's answered."""
        got = run(*calls, *[on_medium(b) for b in range(12)])[len(calls):]
        self.assertEqual([answer[0] for answer in got], [0] * 12)
        return [answer[1:] for answer in got]

    def test_a_new_disk(self):
        self.assertEqual(self.medium(make(12, 5)), HEADS + [ZEROS] * 10)

    def test_the_journal(self):
        calls = [make(12, 5), commit([3, 0], NEW)]
        self.assertEqual(self.medium(*calls), HEADS + [ZEROS] * 10)
        some = [JOURNAL[0][:70] + ZEROS[70:], ZEROS, JOURNAL[2]]
        self.assertEqual(self.medium(*calls, arrive([2 * 1024 + 512, 70])), HEADS + some + [ZEROS] * 7)
        self.assertEqual(self.medium(*calls, flush()), HEADS + JOURNAL + [ZEROS] * 7)

    def test_the_homes_and_a_settling_s_head(self):
        calls = [make(12, 5), commit([3, 0], NEW)]
        homes = [block(2), ZEROS, ZEROS, block(1), ZEROS]
        heads = [written_head(2, 12, 5, 2, 3), HEADS[1]]
        self.assertEqual(self.medium(*calls, settle()), heads + JOURNAL + [ZEROS] * 2 + homes)
        # A barrier and the first home; of it 20 bytes arrive.
        self.assertEqual(self.medium(*calls, cut_in(2, SETTLE, [20])),
                         HEADS + JOURNAL + [ZEROS] * 2 + [block(2)[:20] + ZEROS[20:]] + [ZEROS] * 4)

    def test_behind_a_mending(self):
        calls = [make(12, 5), commit([3, 0], NEW), cut(whole(0, 1, 2)), mend()]
        homes = [block(2), ZEROS, ZEROS, block(1), ZEROS]
        heads = [written_head(2, 12, 5, 7, 3), HEADS[1]]
        self.assertEqual(self.medium(*calls), heads + JOURNAL + [ZEROS] * 2 + homes)

    def test_a_disk_that_does_not_run(self):
        self.assertEqual(self.medium(make(12, 5), commit([3, 0], NEW), flush(), cut()),
                         HEADS + JOURNAL + [ZEROS] * 7)
        blocks = [block(10 * k) for k in range(12)]
        self.assertEqual(self.medium(load(blocks)), blocks)
        self.assertEqual(self.medium(load(blocks), mend()), blocks)

    def test_blocks_that_are_not_there(self):
        asked = [on_medium(b) for b in (-1, 0, 11, 12, -MOST - 1, MOST)]
        for calls in ([make(12, 5)], [make(12, 5), cut()]):
            got = run(*calls, *asked)[len(calls):]
            self.assertEqual(got, [[-2], [0] + HEADS[0], [0] + ZEROS, [-2], [-2], [-2]])
        got = run(load([block(k) for k in range(8)]), *[on_medium(b) for b in (-1, 0, 7, 8)])
        self.assertEqual(got[1:], [[-2], [0] + block(0), [0] + block(7), [-2]])

    def test_a_disk_without_blocks(self):
        for calls in ([], [make(8, 3)], [load([ZEROS] * 7)]):
            got = run(*calls, on_medium(0), on_medium(-1), on_medium(1))
            self.assertEqual(got[len(calls):], [[-2]] * 3)


if __name__ == "__main__":
    unittest.main()
