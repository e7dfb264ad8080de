"""Promise 10 (told)."""

import unittest

from tests.lines import Case, COMMIT, FLUSH, SETTLE, ZEROS, arrive, block, commit, cut, cut_in, flush, load, make, mend
from tests.lines import on_medium, plan, run, settle, told, whole, written_head, written_transaction

NEW = [block(1), block(2)]


class ToldTest(Case):
    def check(self, calls, *numbers):
        """The numbers behind these calls: n, j, h, next number, place, taken, generation, on their way."""
        self.assertEqual(run(*calls, told())[-1], [0] + list(numbers))

    def test_behind_make(self):
        self.check([make(8, 4)], 8, 4, 2, 1, 0, 0, 1, 0)
        self.check([make(256, 253)], 256, 253, 1, 1, 0, 0, 1, 0)
        self.check([make(20, 7), commit([0], NEW[:1]), settle(), commit([0], NEW[:1]), make(12, 5)],
                   12, 5, 5, 1, 0, 0, 1, 0)

    def test_one_call_behind_another(self):
        calls = [make(20, 7)]
        steps = [(commit([0, 1], NEW), [2, 3, 3, 1, 3]), (commit([3, 10], NEW), [3, 6, 6, 1, 6]),
                 (flush(), [3, 6, 6, 1, 0]), (commit([5], NEW[:1]), [4, 1, 2, 2, 2]), (settle(), [4, 1, 0, 3, 0]),
                 (settle(), [4, 1, 0, 3, 0]), (flush(), [4, 1, 0, 3, 0]), (commit([5, 0], NEW), [5, 4, 3, 3, 3]),
                 (commit([5, 0, 1], [ZEROS] * 3), [6, 1, 7, 3, 7])]
        for call, numbers in steps:
            calls.append(call)
            self.check(calls, 20, 7, 11, *numbers)

    def test_behind_a_commit_that_settles_first(self):
        before = [make(20, 4), commit([0, 1], NEW)]
        self.check(before + [commit([0, 1], NEW)], 20, 4, 14, 3, 2, 3, 2, 3)
        self.check(before + [flush(), commit([2], NEW[:1])], 20, 4, 14, 3, 1, 2, 2, 2)
        self.check([make(20, 4), commit([0], NEW[:1]), commit([1], NEW[:1])], 20, 4, 14, 3, 0, 4, 1, 4)

    def test_behind_a_mending(self):
        self.check([make(20, 7), cut(), mend()], 20, 7, 11, 8, 0, 0, 2, 0)
        two = [make(20, 7), commit([0, 1], NEW), commit([2], NEW[:1])]
        self.check(two + [flush(), cut(), mend()], 20, 7, 11, 10, 5, 0, 2, 0)
        self.check(two + [cut(whole(0, 1, 2)), mend()], 20, 7, 11, 9, 3, 0, 2, 0)
        self.check(two + [settle(), cut(), mend(), cut(), mend()], 20, 7, 11, 17, 5, 0, 4, 0)
        self.check(two + [flush(), cut(), mend(), commit([9], NEW[:1])], 20, 7, 11, 11, 0, 2, 2, 2)

    def test_behind_a_load_and_a_mending(self):
        medium = [ZEROS, written_head(77, 9, 5, 1000, 4)] + [ZEROS] * 7
        medium[6] = written_transaction(1000, [1], [block(1)])[0]
        medium[2] = written_transaction(1000, [1], [block(1)])[1]
        self.check([load(medium), mend()], 9, 5, 2, 1006, 1, 0, 78, 0)
        self.check([make(20, 7), load(medium), mend()], 9, 5, 2, 1006, 1, 0, 78, 0)

    def test_great_numbers(self):
        great = 2 ** 60 - 1
        medium = [ZEROS, written_head(great, 8, 4, great, 3)] + [ZEROS] * 6
        self.check([load(medium), mend()], 8, 4, 2, great + 4, 3, 0, great + 1, 0)

    def test_what_changes_none_of_them(self):
        before = [make(20, 7), commit([0, 1], NEW), settle(), commit([2], NEW[:1])]
        numbers = [20, 7, 11, 3, 5, 2, 2, 2]
        self.check(before, *numbers)
        for call in (told(), commit([0, 0], NEW), commit([], []), commit(range(7), [ZEROS] * 7), mend(), make(7, 4),
                     load([ZEROS] * 7), arrive([512, 1024 + 3]), on_medium(0), plan(COMMIT, [0, 1], NEW), plan(FLUSH),
                     plan(SETTLE)):
            self.check(before + [call], *numbers)

    def test_a_disk_that_does_not_run(self):
        none = [[], [make(7, 4)], [make(8, 4), cut()], [make(8, 4), load([ZEROS] * 8)], [load([ZEROS] * 8), mend()],
                [make(8, 4), commit([0], NEW[:1]), cut_in(1, FLUSH)], [make(8, 4), cut_in(0, SETTLE)]]
        for calls in none:
            self.assertEqual(run(*calls, told())[-1], [-6])


if __name__ == "__main__":
    unittest.main()
