"""The interface: how calls and answers are written, and that nothing is kept."""

import unittest

from sparedisk.disk import answers
from tests.lines import Case, COMMIT, MEND, SETTLE, ZEROS, arrive, block, commit, crc, cut, cut_in, flush, joined, load
from tests.lines import look, make, mend, on_medium, plan, read, save, settle, sum_call, told, written_head
from tests.lines import written_transaction


class InterfaceTest(Case):
    def test_how_answers_stand(self):
        self.assertEqual(answers([5]), [1, -6])
        self.assertEqual(answers([0, 8, 4]), [1, 0])
        self.assertEqual(answers([1, 0, 0, 8, 4, 1, -1, 1, 1, 3, 4, 6, 0, 5]),
                         [1, -6, 1, 0, 1, -2, 513, 0] + ZEROS + [1, 0, 1, 0, 1, 0, 1, 0])

    def test_how_a_commit_is_written(self):
        calls = [0, 9, 4, 2, 2, 2, 0, 1024] + block(1) + block(2) + [1, 0, 1, 2]
        self.assertEqual(answers(calls), [1, 0, 1, 1, 513, 0] + block(2) + [513, 0] + block(1))

    def test_how_cuts_are_written(self):
        calls = [0, 8, 4, 2, 1, 0, 512] + block(1) + [6, 2, 512, 1536, 5]
        self.assertEqual(answers(calls), [1, 0, 1, 1, 1, 0, 1, 1])
        calls = [0, 8, 4, 7, 2, 0, 2, 512, 1536, 1, 0, 512] + block(1) + [5, 7, 0, 1, 0, 0, 0, 5]
        self.assertEqual(answers(calls), [1, 0, 1, 0, 1, 1, 1, 0, 1, 0])

    def test_how_arrive_told_block_and_look_are_written(self):
        calls = [0, 8, 4, 2, 1, 1, 512] + block(1) + [8, 2, 1536, 512, 9, 11, 10, 3]
        new = written_transaction(1, [1], [block(1)])[1]
        self.assertEqual(answers(calls), [1, 0, 1, 1, 1, 0, 9, 0, 8, 4, 2, 2, 2, 2, 1, 2, 7, 0, 1, 1, 0, 1, 1, 1,
                                          513, 0] + new)
        self.assertEqual(answers([8, 0, 9, 11, 10, 0]), [1, 0, 1, -6, 1, -6, 1, -2])

    def test_how_save_and_load_are_written(self):
        medium = joined([block(k) for k in range(9)])
        self.assertEqual(answers([13, 4608] + medium + [12, 13, 0, 12, 13, 1, 5]),
                         [1, 0, 4609, 9] + medium + [1, -2, 4609, 9] + medium + [1, -2])
        self.assertEqual(answers([12]), [1, 0])

    def test_how_plan_is_written(self):
        places = written_transaction(1, [1], [block(1)])
        calls = [0, 8, 4, 14, 0, 1, 1, 512] + block(1) + [14, 1, 0, 0, 14, 2, 0, 0, 14, 3, 0, 0, 6, 0, 14, 3, 0, 0]
        head = crc(written_head(2, 8, 4, 5, 0))
        self.assertEqual(answers(calls), [1, 0, 5, 0, 3, crc(places[0]), 4, crc(places[1]), 2, 0, 0, 1, 0, 1, -3, 1, 0,
                                          5, 0, 0, 1, head, 0])

    def test_how_sum_is_written(self):
        self.assertEqual(answers([15, 0, 15, 1, 97]), [1, 0, 1, 0xC1D04330])

    def test_empty_rows(self):
        self.assertEqual(answers([0, 8, 4, 2, 0, 0, 6, 0, 7, 0, 0, 0, 0, 0]), [1, 0, 1, -2, 1, 0, 1, 0])
        self.assertEqual(answers([0, 8, 4, 8, 0, 14, 0, 0, 0, 13, 0, 15, 0]), [1, 0, 1, 0, 1, -2, 1, -2, 1, 0])

    def test_the_most_calls(self):
        self.assertEqual(answers([0, 8, 4] + [3] * 399), [1, 0] * 400)
        self.assertEqual(answers([0, 8, 4] + [9] * 399), [1, 0] + [9, 0, 8, 4, 2, 1, 0, 0, 1, 0] * 399)

    def long_list(self):
        calls = [make(12, 5), commit([0, 1], [block(1), block(2)]), read(0), cut_in(2, 0, [512], [3], [block(3)]),
                 mend(), commit([2], [block(4)]), flush(), read(2), settle(), cut([1, 2, 3]), mend(), make(7, 1),
                 read(1), plan(COMMIT, [0, 4], [block(5), block(6)]), commit([0, 4], [block(5), block(6)]),
                 arrive([512, 2000]), told(), look(), on_medium(3), plan(SETTLE), save(), sum_call([1, 2, 3]),
                 load([block(7)] * 7),
                 load([written_head(2, 9, 4, 7, 1)] + [block(8)] * 8), look(), plan(MEND), mend(), told(), save()]
        return [number for call in calls for number in call]

    def test_the_list_handed_in_stays_as_it_was(self):
        calls = self.long_list()
        before = list(calls)
        answers(calls)
        self.assertEqual(calls, before)

    def test_a_second_call_begins_anew(self):
        calls = self.long_list()
        first = answers(calls)
        kept = list(first)
        self.assertEqual(answers([1, 0, 5]), [1, -6, 1, -6])
        self.assertEqual(answers([12, 9, 11, 10, 0]), [1, 0, 1, -6, 1, -6, 1, -2])
        self.assertEqual(answers(calls), kept)
        first.append(1)
        self.assertEqual(answers(calls), kept)

    def test_answers_are_whole_numbers_in_one_list(self):
        got = answers(self.long_list())
        self.assertIs(type(got), list)
        self.assertEqual({type(number) for number in got}, {int})


if __name__ == "__main__":
    unittest.main()
