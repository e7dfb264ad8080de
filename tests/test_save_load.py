"""Promise 13 (save and load), and what mending takes for right on a medium that was loaded."""

import unittest

from sparedisk.drive import Drive
from tests.lines import Case, ZEROS, arrive, block, commit, crc, cut, first_numbers, flush, joined, load, look, make
from tests.lines import mend, on_medium, read, run, save, settle, told, whole, written_head, written_transaction

HEADS = [written_head(0, 12, 5, 1, 0), written_head(1, 12, 5, 1, 0)]
# What look answers where no head is right, and where the head of the medium below is right but nothing else.
NO_HEAD = [-6]
NO_TRANSACTION = [0, 7, 9, 3, 0]


def saved_blocks(answer):
    """The blocks of an answer of save."""
    blocks = [answer[at:at + 512] for at in range(1, len(answer), 512)]
    assert answer[0] == len(blocks)
    return blocks


class SaveTest(Case):
    def test_a_disk_without_blocks(self):
        self.assertEqual(run(save(), make(7, 4), save(), load([ZEROS] * 7), save()), [[0], [-2], [0], [-2], [0]])

    def test_a_new_disk(self):
        self.assertEqual(run(make(12, 5), save())[1], [12] + joined(HEADS + [ZEROS] * 10))

    def test_only_what_has_arrived(self):
        journal = written_transaction(1, [3, 0], [block(1), block(2)])
        got = run(make(12, 5), commit([3, 0], [block(1), block(2)]), save(), arrive([30]), save(), flush(), save())
        self.assertEqual(got[2], [12] + joined(HEADS + [ZEROS] * 10))
        self.assertEqual(got[4], [12] + joined(HEADS + [journal[0][:30] + ZEROS[30:]] + [ZEROS] * 9))
        self.assertEqual(got[6], [12] + joined(HEADS + journal + [ZEROS] * 7))

    def test_it_changes_nothing(self):
        got = run(make(12, 5), commit([3], [block(1)]), told(), save(), told(), read(3), cut(), save(), save(), told())
        self.assertEqual(got[2], got[4])
        self.assertEqual(got[5], [0] + block(1))
        self.assertEqual(got[7], got[8])
        self.assertEqual(got[9], [-6])

    def test_the_greatest_disk(self):
        got = run(make(256, 4), commit([249], [block(9)]), settle(), save())[3]
        self.assertEqual((got[0], len(got), got[-512:]), (256, 1 + 256 * 512, block(9)))


class LoadTest(Case):
    def test_what_was_saved_is_loaded_again(self):
        before = [make(12, 6), commit([3, 0], [block(1), block(2)]), settle(), commit([1], [block(3)]),
                  commit([0], [block(4)]), commit([2], [block(5)])]
        for more in ([], [arrive(whole(0, 1))], [arrive(whole(0, 1, 2, 3, 5))], [flush()], [cut()], [cut([9]), mend()]):
            saved = run(*before, *more, save())[-1]
            behind = [look(), save(), mend(), told()] + [read(k) for k in range(4)]
            expected = run(*before, *more, cut(), *behind)[len(before) + len(more) + 1:]
            self.assertEqual(run(load(saved_blocks(saved)), *behind)[1:], expected)
            self.assertEqual(expected[1], saved)

    def test_what_mending_finds_then(self):
        medium = [written_head(6, 10, 5, 8, 4), written_head(5, 10, 4, 2, 1)]
        places = written_transaction(8, [2, 0], [block(1), block(2)]) + written_transaction(9, [2], [block(3)])
        medium += places[1:] + places[:1] + [block(50), block(51), block(52)]
        got = run(load(medium), look(), mend(), told(), read(0), read(1), read(2), save())
        self.assertEqual(got[:4], [[0], [0, 6, 8, 4, 2, 2, 2, 0, 1, 2], [2], [0, 10, 5, 3, 15, 4, 0, 7, 0]])
        self.assertEqual(got[4:7], [[0] + block(2), [0] + block(51), [0] + block(3)])
        self.assertEqual(got[7], [10] + joined([medium[0], written_head(7, 10, 5, 15, 4)] + medium[2:7]
                                               + [block(2), block(51), block(3)]))

    def test_a_disk_without_power(self):
        before = [make(12, 5), commit([0], [block(1)])]
        got = first_numbers(*before, load([ZEROS] * 9), read(0), flush(), settle(), told(), commit([0], [block(1)]),
                            mend(), on_medium(8), on_medium(9))
        self.assertEqual(got[2:], [0, -6, -6, -6, -6, -6, -6, 0, -2])

    def test_what_was_on_its_way_is_gone(self):
        medium = [block(k) for k in range(8)]
        got = run(make(12, 5), commit([0], [block(1)]), load(medium), arrive(whole(0, 1)), cut(whole(0, 1)), save())
        self.assertEqual(got[2:], [[0], [0], [0], [8] + joined(medium)])
        got = run(make(12, 5), commit([0], [block(1)]), load(HEADS + [ZEROS] * 10), mend(), flush(), told(), read(0))
        self.assertEqual(got[5:], [[0, 12, 5, 5, 6, 0, 0, 2, 0], [0] + ZEROS])

    def test_sizes_that_are_allowed(self):
        for count in (8, 9, 57):
            medium = [block(k) for k in range(count)]
            self.assertEqual(run(load(medium), save()), [[0], [count] + joined(medium)])

    def test_more_blocks_than_the_interface_hands_in(self):
        drive = Drive()
        self.assertEqual(drive.load([0] * (4097 * 512)), [-2])
        self.assertEqual(drive.save(), [0])
        self.assertEqual(drive.load([0] * (4096 * 512)), [0])
        self.assertEqual(drive.save()[0], 4096)

    def test_sizes_that_are_refused(self):
        for size in (0, 1, 511, 512, 7 * 512, 8 * 512 - 1, 8 * 512 + 1, 9 * 512 - 256, 57 * 512 - 1):
            wrong = [13, size] + [7] * size
            self.assertEqual(run(wrong, save(), mend(), read(0)), [[-2], [0], [-6], [-6]], size)
            before = [make(8, 4), commit([0], [block(1)]), arrive([20])]
            expected = run(*before, told(), save(), read(0), arrive(whole(0, 1)), look(), cut(), save())
            got = run(*before, wrong, told(), save(), read(0), arrive(whole(0, 1)), look(), cut(), wrong, save())
            self.assertEqual([got[3], got[10]], [[-2], [-2]])
            self.assertEqual(got[4:10] + got[11:], expected[3:])

    def test_loading_twice(self):
        first, second = [block(k) for k in range(8)], [block(k + 90) for k in range(9)]
        self.assertEqual(run(load(first), load(second), save())[2], [9] + joined(second))
        self.assertEqual(run(load(second), load(first), save())[2], [8] + joined(first))

    def test_make_behind_it(self):
        got = run(load([block(k) for k in range(9)]), make(8, 4), told(), read(0))
        self.assertEqual(got[1:], [[0], [0, 8, 4, 2, 1, 0, 0, 1, 0], [0] + ZEROS])


def with_right_sum(head):
    """This head with its sum made right again."""
    return head[:500] + list(crc(head[:500]).to_bytes(4, "little")) + head[504:]


def with_number(blocks, which, at, size, value):
    """These blocks with another number of so many bytes in one of them."""
    changed = [list(one) for one in blocks]
    changed[which][at:at + size] = list(value.to_bytes(size, "little"))
    return changed


class WrongHeadTest(Case):
    def check(self, head, expected, b=1):
        """What look answers of a medium of 12 blocks with this head alone; mending agrees with it."""
        medium = [ZEROS] * 12
        medium[b] = head
        got = run(load(medium), look(), save(), mend(), told())
        self.assertEqual(got[1], expected)
        self.assertEqual(got[3][0], -6 if expected == NO_HEAD else expected[4])
        if expected == NO_HEAD:
            self.assertEqual(got[2], [12] + joined(medium))
            self.assertEqual(got[4], [-6])

    def test_one_byte(self):
        head = written_head(7, 12, 5, 9, 3)
        self.check(head, NO_TRANSACTION)
        for at in range(512):
            for change in (1, 128):
                wrong = list(head)
                wrong[at] ^= change
                self.check(wrong, NO_HEAD)

    def test_one_byte_of_the_newer_head(self):
        newer = written_head(8, 12, 5, 20, 1)
        for at in range(0, 512, 3):
            wrong = list(newer)
            wrong[at] ^= 16
            got = run(load([wrong, written_head(7, 12, 5, 9, 3)] + [ZEROS] * 10), look())
            self.assertEqual(got[1], NO_TRANSACTION, at)

    def test_numbers_that_are_allowed(self):
        great = 2 ** 60 - 1
        for head in [(1, 12, 4, 0, 0), (1, 12, 9, 1, 8), (great, 12, 5, great, 4), (2 ** 32 + 1, 12, 5, 2 ** 32, 0)]:
            self.check(written_head(*head), [0, head[0], head[3], head[4], 0])
        for head in [(0, 12, 5, 0, 0), (great - 1, 12, 5, 1, 4)]:
            self.check(written_head(*head), [0, head[0], head[3], head[4], 0], 0)

    def test_wrong_numbers_with_right_sums(self):
        wrong = [(2 ** 60 + 1, 12, 5, 9, 3), (2 ** 64 - 1, 12, 5, 9, 3), (7, 12, 5, 2 ** 60, 3),
                 (7, 12, 5, 2 ** 64 - 1, 3), (7, 12, 5, 9, 5), (7, 12, 5, 9, 6), (7, 12, 5, 9, 2 ** 32 - 1),
                 (7, 11, 5, 9, 3), (7, 13, 5, 9, 3), (7, 0, 5, 9, 3), (7, 2 ** 32 - 1, 5, 9, 3), (7, 12, 3, 9, 2),
                 (7, 12, 0, 9, 0), (7, 12, 10, 9, 3), (7, 12, 2 ** 32 - 1, 9, 3)]
        for head in wrong:
            self.check(written_head(*head), NO_HEAD)
        self.check(written_head(2 ** 60, 12, 5, 9, 3), NO_HEAD, 0)

    def test_a_head_in_the_other_block(self):
        self.check(written_head(7, 12, 5, 9, 3), NO_HEAD, 0)
        self.check(written_head(6, 12, 5, 9, 3), NO_HEAD, 1)
        self.check(written_head(7, 12, 5, 9, 3), NO_HEAD, 2)

    def test_two_generations_in_one_head(self):
        other = with_number([written_head(7, 12, 5, 9, 3)], 0, 504, 8, 9)[0]
        self.check(other, NO_HEAD)
        other = with_right_sum(with_number([written_head(7, 12, 5, 9, 3)], 0, 8, 8, 9)[0])
        self.check(other, NO_HEAD)

    def test_what_is_no_zero_with_a_right_sum(self):
        for at in (0, 7, 36, 39, 40, 250, 499):
            wrong = written_head(7, 12, 5, 9, 3)
            wrong[at] ^= 4
            self.check(with_right_sum(wrong), NO_HEAD)


class WrongTransactionTest(Case):
    # 16 blocks, 7 of them the journal's, and homes 0 to 6; transaction 9 lies from place 5 on and comes round.
    def check(self, pieces, *homes):
        """Of which homes the transactions are that are found where these blocks lie in the ring's places."""
        medium = [ZEROS, written_head(7, 16, 7, 9, 5)] + [ZEROS] * 7 + [block(200 + k) for k in range(7)]
        for k, piece in enumerate(pieces):
            medium[2 + (5 + k) % 7] = piece
        got = run(load(medium), look(), mend(), told(), save())
        expected = [0, 7, 9, 5, len(homes)]
        for some in homes:
            expected += [len(some)] + some
        self.assertEqual(got[1], expected)
        self.assertEqual(got[2], [len(homes)])
        place = (5 + sum(len(some) + 1 for some in homes)) % 7
        self.assertEqual(got[3], [0, 16, 7, 7, 9 + len(homes) + 7, place, 0, 8, 0])
        if not homes:
            self.assertEqual(saved_blocks(got[4])[1:], medium[1:])

    def test_right_ones(self):
        self.check(written_transaction(9, [4], [block(1)]), [4])
        self.check(written_transaction(9, [6, 0, 4, 1, 2, 3], [block(k) for k in range(6)]), [6, 0, 4, 1, 2, 3])
        two = written_transaction(9, [4, 6], [block(1), block(2)]) + written_transaction(10, [6], [block(3)])
        self.check(two, [4, 6], [6])

    def test_one_byte(self):
        pieces = written_transaction(9, [4, 6], [block(1), block(2)])
        for which in range(3):
            for at in range(0, 512, 1 if which == 0 else 7):
                wrong = [list(piece) for piece in pieces]
                wrong[which][at] ^= 32
                self.check(wrong)

    def test_one_byte_of_the_second(self):
        pieces = written_transaction(9, [4, 6], [block(1), block(2)])
        second = written_transaction(10, [6], [block(3)])
        for which in range(2):
            for at in list(range(0, 48)) + [100, 503, 504, 511]:
                wrong = [list(piece) for piece in second]
                wrong[which][at] ^= 1
                self.check(pieces + wrong, [4, 6])

    def test_wrong_numbers_with_right_sums(self):
        for number in (0, 8, 10, 9 + 2 ** 32, 2 ** 64 - 1):
            self.check(written_transaction(number, [4], [block(1)]))
        pieces = written_transaction(9, [4], [block(1)]) + written_transaction(11, [5], [block(2)])
        self.check(pieces, [4])
        pieces = written_transaction(9, [4], [block(1)])
        self.check(with_number(pieces, 0, 8, 8, 10))
        self.check(with_number(pieces, 0, 504, 8, 10))
        self.check(with_number(pieces, 1, 504, 8, 10))

    def test_how_many_homes(self):
        pieces = written_transaction(9, [4, 6, 0], [block(1), ZEROS, ZEROS])
        for count in (0, 1, 2, 4, 5, 6, 7, 30, 31, 32, 2 ** 16, 2 ** 32 - 1):
            self.check(with_number(pieces, 0, 16, 4, count))
        self.check(written_transaction(9, [], []))
        self.check(with_number(pieces, 0, 20, 4, 1))

    def test_more_places_than_the_journal_has(self):
        seven = written_transaction(9, list(range(7)), [block(k) for k in range(7)])
        self.check(seven[:7])

    def test_a_home_twice(self):
        self.check(written_transaction(9, [4, 4], [block(1), block(2)]))
        self.check(written_transaction(9, [4, 6, 4], [block(1), block(2), block(1)]))

    def test_a_home_that_is_not_there(self):
        self.check(written_transaction(9, [6], [block(1)]), [6])
        for home in (7, 8, 16, 2 ** 31, 2 ** 32 - 1):
            self.check(written_transaction(9, [home], [block(1)]))
            self.check(written_transaction(9, [1, home], [block(1), block(2)]))

    def test_behind_one_that_is_wrong_none_is_found(self):
        pieces = written_transaction(9, [4, 4], [block(1), block(2)]) + written_transaction(10, [5], [block(3)])
        self.check(pieces)


if __name__ == "__main__":
    unittest.main()
