"""Promise 14 (plan)."""

import unittest

from tests.lines import Case, COMMIT, FLUSH, MEND, SETTLE, ZEROS, arrive, block, commit, crc, cut, cut_in, first_numbers
from tests.lines import flush, load, look, make, mend, plan, read, run, save, settle, told, whole, written_head
from tests.lines import written_transaction

NEW = [block(1), block(2)]


def writes(first, blocks):
    """What's told of writes of these blocks, one behind another from block first on."""
    return [number for k, one in enumerate(blocks) for number in (first + k + 1, crc(one))]


class PlanTest(Case):
    def check(self, before, planned, expected):
        """What is planned; and that what's there behind these calls isn't changed by that."""
        state = [save(), told(), look()]
        got = run(*before, *state, planned, planned, *state)[len(before):]
        self.assertEqual(got[3:5], [expected] * 2)
        self.assertEqual(got[:3], got[5:])

    def test_a_commit(self):
        before = [make(12, 5)]
        self.check(before, plan(COMMIT, [4], NEW[:1]), [0] + writes(2, written_transaction(1, [4], NEW[:1])))
        three = [block(7), ZEROS, block(8)]
        self.check(before, plan(COMMIT, [4, 0, 3], three), [0] + writes(2, written_transaction(1, [4, 0, 3], three)))

    def test_a_commit_behind_others(self):
        before = [make(20, 9), commit([4], NEW[:1]), commit([1, 0], NEW)]
        expected = [0] + writes(7, written_transaction(3, [5, 4], NEW))
        self.check(before, plan(COMMIT, [5, 4], NEW), expected)
        self.check(before + [flush()], plan(COMMIT, [5, 4], NEW), expected)

    def test_a_commit_over_the_ring_s_end(self):
        before = [make(12, 5), commit([0, 1], NEW), settle()]
        places = written_transaction(2, [3, 1, 4], NEW + [ZEROS])
        expected = [0] + writes(5, places[:2]) + writes(2, places[2:])
        self.check(before, plan(COMMIT, [3, 1, 4], NEW + [ZEROS]), expected)

    def test_a_commit_of_the_most_homes(self):
        homes, blocks = list(range(29, -1, -1)), [block(k) for k in range(30)]
        self.check([make(64, 31)], plan(COMMIT, homes, blocks), [0] + writes(2, written_transaction(1, homes, blocks)))

    def test_a_commit_that_settles_first(self):
        before = [make(12, 5), commit([3, 0], NEW)]
        homes = writes(7, [block(2)]) + writes(10, [block(1)])
        settling = [0] + homes + [0] + writes(0, [written_head(2, 12, 5, 2, 3)]) + [0]
        places = written_transaction(2, [1, 3], NEW)
        expected = [0] + settling + writes(5, places[:2]) + writes(2, places[2:])
        self.check(before, plan(COMMIT, [1, 3], NEW), expected)
        self.check(before + [flush()], plan(COMMIT, [1, 3], NEW), expected)
        just = written_transaction(2, [1], NEW[:1])
        self.check(before, plan(COMMIT, [1], NEW[:1]), [0] + writes(5, just))

    def test_a_flush(self):
        for before in ([make(8, 4)], [make(8, 4), commit([0], NEW[:1])], [make(8, 4), commit([0], NEW[:1]), settle()]):
            self.check(before, plan(FLUSH), [0, 0])

    def test_a_settling(self):
        before = [make(12, 7), commit([2, 0], NEW), commit([1, 2], [block(3), block(4)])]
        homes = writes(9, [block(2), block(3), block(4)])
        expected = [0, 0] + homes + [0] + writes(0, [written_head(2, 12, 7, 3, 6)]) + [0]
        self.check(before, plan(SETTLE), expected)
        self.check(before + [flush()], plan(SETTLE), expected)
        before += [settle(), commit([1], [block(5)])]
        expected = [0, 0] + writes(10, [block(5)]) + [0] + writes(1, [written_head(3, 12, 7, 4, 1)]) + [0]
        self.check(before, plan(SETTLE), expected)

    def test_a_settling_with_nothing_taken(self):
        for before in ([make(8, 4)], [make(8, 4), commit([0], NEW[:1]), settle()], [make(8, 4), cut(), mend()],
                       [make(8, 4), commit([0], NEW[:1]), flush(), cut(), mend()]):
            self.check(before, plan(SETTLE), [0])

    def test_a_mending_without_transactions(self):
        self.check([make(12, 5), cut()], plan(MEND), [0, 0] + writes(0, [written_head(2, 12, 5, 6, 0)]) + [0])
        self.check([load([ZEROS, written_head(9, 8, 4, 50, 3)] + [ZEROS] * 6)], plan(MEND),
                   [0, 0] + writes(0, [written_head(10, 8, 4, 54, 3)]) + [0])

    def test_a_mending_with_transactions(self):
        before = [make(12, 7), commit([2, 0], NEW), commit([1, 2], [block(3), block(4)])]
        homes = writes(9, [block(2), block(3), block(4)])
        self.check(before + [flush(), cut()], plan(MEND),
                   [0] + homes + [0] + writes(0, [written_head(2, 12, 7, 10, 6)]) + [0])
        homes = writes(9, [block(2)]) + writes(11, [block(1)])
        self.check(before + [cut(whole(0, 1, 2, 4))], plan(MEND),
                   [0] + homes + [0] + writes(0, [written_head(2, 12, 7, 9, 3)]) + [0])

    def test_refusals_of_a_commit(self):
        before = [make(12, 4), commit([0], NEW[:1])]
        twice, beyond, many = ([0, 1, 2, 2], [0, 1, 2, 6], list(range(31)))
        wrong = [([], -2), ([3, 3], -2), ([6], -2), ([2147483647], -2), (many, -2), (twice, -2), (beyond, -2),
                 ([0, 1, 2, 3], -5)]
        for homes, answer in wrong:
            self.check(before, plan(COMMIT, homes, [ZEROS] * len(homes)), [answer])
            self.check(before + [cut()], plan(COMMIT, homes, [ZEROS] * len(homes)), [-6])
            self.check([], plan(COMMIT, homes, [ZEROS] * len(homes)), [-6])
        self.check([make(12, 5)], plan(COMMIT, [0, 1, 2, 3], [ZEROS] * 4),
                   [0] + writes(2, written_transaction(1, [0, 1, 2, 3], [ZEROS] * 4)))
        self.check([make(256, 60)], plan(COMMIT, list(range(31)), [ZEROS] * 31), [-2])

    def test_refusals_of_the_others(self):
        self.assertEqual(first_numbers(plan(COMMIT, [0], NEW[:1]), plan(FLUSH), plan(SETTLE), plan(MEND)), [-6] * 4)
        self.check([make(8, 4)], plan(MEND), [-3])
        self.check([make(8, 4), cut(), mend()], plan(MEND), [-3])
        without_power = [[make(8, 4), commit([0], NEW[:1]), cut()], [load([ZEROS] * 8)]]
        for before in without_power:
            for kind in (FLUSH, SETTLE):
                self.check(before, plan(kind), [-6])
        self.check([load([ZEROS] * 8)], plan(MEND), [-6])
        self.check([make(8, 4), load([ZEROS] * 8)], plan(MEND), [-6])

    def test_what_is_planned_is_what_is_done(self):
        # All that's planned of a commit that settles first arrives at a cut behind it, one action more each time.
        before = [make(12, 5), commit([3, 0], NEW), commit([1], [block(3)])]
        planned = run(*before, plan(COMMIT, [2], [block(4)]))[-1][1:]
        actions = []
        while planned:
            size = 1 if planned[0] == 0 else 2
            actions.append(planned[:size])
            planned = planned[size:]
        self.assertEqual(len(actions), 9)
        for after in range(len(actions) + 1):
            cutting = cut_in(after, COMMIT, whole(*range(9)), [2], [block(4)])
            medium = run(*before, cutting, save())[-1]
            written = [action for action in actions[:after] if action != [0]]
            for number, total in written:
                self.assertEqual(crc(medium[1 + 512 * (number - 1):1 + 512 * number]), total, (after, number))

    def test_nothing_is_done(self):
        before = [make(12, 5), commit([3, 0], NEW), arrive([50, 1024 + 70])]
        behind = [read(0), read(1), commit([2], NEW[:1]), arrive(whole(4)), save(), told(), settle(), save(), cut(),
                  mend(), told()]
        expected = run(*before, *behind)[len(before):]
        for planned in (plan(COMMIT, [1], NEW[:1]), plan(COMMIT, [1, 0, 2], [ZEROS] * 3), plan(FLUSH), plan(SETTLE),
                        plan(MEND), plan(COMMIT, [1, 1], NEW)):
            self.assertEqual(run(*before, planned, *behind)[len(before) + 1:], expected)


if __name__ == "__main__":
    unittest.main()
