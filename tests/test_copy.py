"""Promise 7 and, for it, 10: copy."""

import unittest

from tests.helper import (
    COPIED, NX, PROTECT, THERE, TO_TABLE, TOP, USED, USER, USERS, WRITABLE, WRITTEN,
    address, all_but, at, check_unchanged, copy, drop, give, look, new, read, run, share, touch, uses, way,
    words_behind, write,
)

NUMBERS = (300, 6, 7, 8)
ADDR = address(NUMBERS)
COUNTS = {1: 1, 2: 1, 3: 1, 4: 1, 9: 1}

# Bits that an entry of a sound tree may have and that mean nothing to copy.
OTHER_BITS = (3 << 3, USED, WRITTEN, 1 << 8, 3 << 10, 127 << 52, 15 << 59)


def one_page(last, bits=TO_TABLE):
    """The root 1 with one page, in frame 9, at NUMBERS."""
    return way(NUMBERS, last, bits=bits)[0]


# A tree with the root 1 that forks on each level: its tables lead to tables and at last to pages without flags.
FORKS = {
    (1, 5): 30, (1, 300): 20,
    (30, 0): 31, (30, 511): 32,
    (31, 7): 33,
    (32, 1): 35, (32, 2): 34,
    (20, 6): 21, (21, 7): 22,
}
LEAVES = {(33, 0): 40, (33, 511): 41, (35, 9): 42, (34, 9): 40, (22, 8): 43}
FORK_COUNTS = {1: 1, 20: 1, 21: 1, 22: 1, 30: 1, 31: 1, 32: 1, 33: 1, 34: 1, 35: 1, 40: 2, 41: 1, 42: 1, 43: 1}
# The tables in the order in which they are copied.
FORK_ORDER = (1, 30, 31, 33, 32, 35, 34, 20, 21, 22)


def forked(bits=TO_TABLE, page_bits=THERE, moved=None):
    """The words of the tree that forks; if it is told where its tables have moved, of its copy there."""
    moved = moved or {frame: frame for frame in FORK_ORDER}
    words = {at(moved[table], number): moved[below] << 12 | bits for (table, number), below in FORKS.items()}
    return words | {at(moved[table], number): page << 12 | page_bits for (table, number), page in LEAVES.items()}


class CopyTrees(unittest.TestCase):
    def test_a_root_alone(self):
        told = run({}, {1: 1}, [copy(1)], [0])
        self.assertEqual(told, [[0], [0, 0, 1, 1, 1]])
        self.assertEqual(words_behind({at(0, 3): 7}, {1: 1}, [copy(1)]), {})

    def test_one_page(self):
        memory = one_page(0x9000 | THERE)
        told = run(memory, COUNTS, [copy(1)])
        self.assertEqual(told, [[0], uses(COUNTS | {0: 1, 5: 1, 6: 1, 7: 1, 9: 2})])
        twin = way(NUMBERS, 0x9000 | THERE, tables=(0, 5, 6, 7))[0]
        self.assertEqual(words_behind(memory, COUNTS, [copy(1)]), memory | twin)

    def test_frames_are_taken_table_by_table(self):
        # Free frames lie below, between and above those of the tree.
        for free in (range(50, 60), (0, 2, 3, 23, 24, 36, 100, 101, 200, 255), range(10, 20)):
            with self.subTest(free=free):
                counts = all_but(free) | FORK_COUNTS
                moved = dict(zip(FORK_ORDER, free))
                told = run(forked(), counts, [copy(1), new()])
                shared = {40: 4, 41: 2, 42: 2, 43: 2}
                self.assertEqual(told, [[free[0]], [-2], uses(counts | {frame: 1 for frame in free} | shared)])
                self.assertEqual(words_behind(forked(), counts, [copy(1)]), forked() | forked(moved=moved))

    def test_entries_go_in_order_however_they_were_laid(self):
        free = range(50, 60)
        counts = all_but(free) | FORK_COUNTS
        memory = dict(reversed(forked().items()))
        moved = dict(zip(FORK_ORDER, free))
        self.assertEqual(words_behind(memory, counts, [copy(1)]), forked() | forked(moved=moved))

    def test_taken_frames_are_all_0_but_for_the_entries(self):
        stains = {at(frame, number): TOP - 1 for frame in (0, 5, 6, 7, 8) for number in (0, 8, 9, 511)}
        memory = one_page(0x9000 | THERE)
        twin = way(NUMBERS, 0x9000 | THERE, tables=(0, 5, 6, 7))[0]
        not_taken = {place: word for place, word in stains.items() if place >= 0x8000}
        self.assertEqual(words_behind(memory | stains, COUNTS, [copy(1)]), memory | twin | not_taken)

    def test_entries_to_tables_keep_their_other_bits(self):
        for other in (*OTHER_BITS, sum(OTHER_BITS), COPIED):
            with self.subTest(other=other):
                memory = one_page(0x9000 | THERE, TO_TABLE | other)
                twin = way(NUMBERS, 0x9000 | THERE, tables=(0, 5, 6, 7), bits=TO_TABLE | other)[0]
                self.assertEqual(words_behind(memory, COUNTS, [copy(1)]), memory | twin)

    def test_each_entry_to_a_table_keeps_its_own(self):
        bits = [TO_TABLE | USED, TO_TABLE | 3 << 59, TO_TABLE | WRITTEN | 1 << 11]
        memory = {at(1, 300): 0x2000 | bits[0], at(2, 6): 0x3000 | bits[1], at(3, 7): 0x4000 | bits[2], at(4, 8): 0x9001}
        twin = {at(0, 300): 0x5000 | bits[0], at(5, 6): 0x6000 | bits[1], at(6, 7): 0x7000 | bits[2], at(7, 8): 0x9001}
        self.assertEqual(words_behind(memory, COUNTS, [copy(1)]), memory | twin)

    def test_pages_are_not_copied(self):
        memory = one_page(0x9000 | THERE) | {at(9, 0): 5, at(9, 511): 6}
        twin = way(NUMBERS, 0x9000 | THERE, tables=(0, 5, 6, 7))[0]
        self.assertEqual(words_behind(memory, COUNTS, [copy(1)]), memory | twin)

    def test_first_and_last_entries(self):
        pages = {at(4, number): (number % 3 + 20) << 12 | TO_TABLE for number in range(512)}
        memory = one_page(0) | pages
        counts = COUNTS | {9: 0, 20: 171, 21: 171, 22: 170}
        told = run(memory, counts, [copy(1)])
        behind = {0: 1, 5: 1, 6: 1, 7: 1, 20: 342, 21: 342, 22: 340}
        self.assertEqual(told, [[0], uses(counts | behind)])
        words = words_behind(memory, counts, [copy(1)])
        changed = {place % 4096: word ^ WRITABLE | COPIED for place, word in pages.items()}
        self.assertEqual({place - 0x4000: words[place] for place in pages}, changed)
        self.assertEqual({place - 0x4000: words[place + 0x3000] for place in pages}, changed)

    def test_most_tables(self):
        # A root with 127 tables below it would lead nowhere: 42 tables each on levels 3, 2 and 1, and a page for all.
        memory, counts = {}, {0: 1, 255: 42}
        for k in range(42):
            three, two, one = (1 + 3 * k + step for step in range(3))
            memory |= way((k * 12, k, k + 1, k + 2), 0xFF007, tables=(0, three, two, one))[0]
            counts |= {three: 1, two: 1, one: 1}
        told = run(memory, counts, [copy(0), copy(0), drop(127), copy(0)], [at(0, 12), at(127, 12), at(130, 2)])
        behind = {frame: 1 for frame in range(254)} | {255: 84}
        marked = 0xFF005 | COPIED
        self.assertEqual(told, [[127], [-2], [0], [127], [0x4007, 131 << 12 | 7, marked, *uses(behind)]])


class CopiedPages(unittest.TestCase):
    def check_page(self, last, last_behind):
        memory = one_page(last)
        told = run(memory, COUNTS, [copy(1)], [at(4, 8), at(7, 8)])
        self.assertEqual(told, [[0], [last_behind, last_behind, *uses(COUNTS | {0: 1, 5: 1, 6: 1, 7: 1, 9: 2})]])

    def test_what_was_to_be_written_is_not_any_more(self):
        self.check_page(0x9000 | THERE | WRITABLE, 0x9000 | THERE | COPIED)
        self.check_page(0x9000 | TO_TABLE, 0x9000 | THERE | USERS | COPIED)

    def test_what_was_to_be_written_and_copied(self):
        self.check_page(0x9000 | TO_TABLE | COPIED, 0x9000 | THERE | USERS | COPIED)

    def test_what_was_not_to_be_written_stays(self):
        for bits in (THERE, THERE | USERS, THERE | NX, THERE | USERS | NX):
            self.check_page(0x9000 | bits, 0x9000 | bits)
            self.check_page(0x9000 | bits | COPIED, 0x9000 | bits | COPIED)

    def test_marks_keys_and_all_other_bits_stay(self):
        for other in (*OTHER_BITS, sum(OTHER_BITS), NX, NX | sum(OTHER_BITS)):
            with self.subTest(other=other):
                self.check_page(0x9000 | TO_TABLE | other, 0x9000 | THERE | USERS | COPIED | other)
                self.check_page(0x9000 | THERE | other, 0x9000 | THERE | other)

    def test_each_page_by_itself(self):
        pages = {at(4, 8): 0x9007, at(4, 9): 0x9005, at(4, 10): 0xA003 | NX, at(4, 11): 0xB001 | COPIED}
        behind = [0x9005 | COPIED, 0x9005, 0xA001 | NX | COPIED, 0xB001 | COPIED]
        counts = COUNTS | {9: 2, 10: 3, 11: 1}
        told = run(one_page(0) | pages, counts, [copy(1)], [*pages, *[place + 0x3000 for place in pages]])
        self.assertEqual(told[1], [*behind, *behind, *uses(counts | {0: 1, 5: 1, 6: 1, 7: 1, 9: 4, 10: 4, 11: 2})])

    def test_used_once_more_for_each_entry_that_leads_there(self):
        told = run(forked(page_bits=TO_TABLE), FORK_COUNTS | {40: 7}, [copy(1)])
        behind = {frame: 1 for frame in (0, *range(2, 11))} | {40: 9, 41: 2, 42: 2, 43: 2}
        self.assertEqual(told, [[0], uses(FORK_COUNTS | behind)])

    def test_writing_is_denied_in_both_trees(self):
        user = USER | PROTECT
        calls = [new(), give(0, 4096, 3), write((0, user, 0), 4096, [7]), copy(0), write((0, user, 0), 4096, [8]),
                 write((0x5000, user, 0), 4096, [8]), read((0, user, 0), 4096, 1), read((0x5000, user, 0), 4096, 1),
                 look((0x5000, 0, 0), 4096, 1)]
        told = run({}, {}, calls)
        self.assertEqual(told[3:9], [[5], [0, 1, 7, 4096], [0, 1, 7, 4096], [1, 0, 0, 0, 7], [1, 0, 0, 0, 7],
                                     [0, 0x4000, 4096]])

    def test_copies_of_copies(self):
        calls = [new(), give(0, 0, 3), copy(0), copy(5), copy(0), copy(9)]
        told = run({}, {}, calls, [at(frame) for frame in (3, 8, 12, 16, 20)])
        self.assertEqual(told[:6], [[0], [4], [5], [9], [13], [17]])
        behind = {frame: 1 for frame in range(21)} | {4: 5}
        self.assertEqual(told[6], [0x4005 | COPIED] * 5 + uses(behind))

    def test_a_tree_that_has_been_touched_is_copied_with_what_it_has_now(self):
        calls = [new(), give(0, 0, 1), copy(0), touch(5, 0), share(5, 4096, 9, 4), copy(5)]
        told = run({}, {}, calls, [at(3, 0), at(8, 0), at(8, 1), at(13, 0), at(13, 1)])
        self.assertEqual(told[:6], [[0], [4], [5], [1], [0], [10]])
        pages = [0x9001 | COPIED, 0x9001 | NX]
        behind = {frame: 1 for frame in range(14)} | {9: 4}
        self.assertEqual(told[6], [0x4001 | COPIED, *pages, *pages, *uses(behind)])


class CopyRefused(unittest.TestCase):
    def test_too_few_frames(self):
        for free in range(4):
            with self.subTest(free=free):
                memory = one_page(0x9000 | TO_TABLE) | {at(250 + k, 1): 99 for k in range(free)}
                check_unchanged(self, memory, all_but(range(250, 250 + free)) | COUNTS, [copy(1)], [-2])

    def test_just_enough_frames(self):
        told = run(one_page(0x9000 | TO_TABLE), all_but(range(250, 254)) | COUNTS, [copy(1), new()])
        self.assertEqual(told[:2], [[250], [-2]])

    def test_no_frame_for_a_root_alone(self):
        check_unchanged(self, {}, all_but(()) | {1: 1}, [copy(1)], [-2])

    def test_too_few_frames_behind_entries_that_would_have_changed(self):
        for free in (1, 4, 7, 9):
            with self.subTest(free=free):
                memory = forked(page_bits=TO_TABLE) | {at(60 + k, 7): 99 for k in range(free)}
                check_unchanged(self, memory, all_but(range(60, 60 + free)) | FORK_COUNTS, [copy(1), copy(1)], [-2, -2])

    def test_a_page_used_65535_times(self):
        for bits in (THERE, TO_TABLE, THERE | COPIED):
            with self.subTest(bits=bits):
                check_unchanged(self, one_page(0x9000 | bits), COUNTS | {9: 65535}, [copy(1)], [-2])

    def test_a_page_used_65534_times(self):
        told = run(one_page(0x9000 | THERE), COUNTS | {9: 65534}, [copy(1), copy(1), copy(0)])
        self.assertEqual(told[:3], [[0], [-2], [-2]])
        self.assertEqual(told[3], uses(COUNTS | {0: 1, 5: 1, 6: 1, 7: 1, 9: 65535}))

    def test_a_page_led_to_twice(self):
        memory = one_page(0x9000 | TO_TABLE) | {at(4, 511): 0x9001}
        check_unchanged(self, memory, COUNTS | {9: 65534}, [copy(1)], [-2])
        told = run(memory, COUNTS | {9: 65533}, [copy(1)])
        self.assertEqual(told, [[0], uses(COUNTS | {0: 1, 5: 1, 6: 1, 7: 1, 9: 65535})])

    def test_the_last_page_alone_is_used_too_often(self):
        memory = forked(page_bits=TO_TABLE)
        check_unchanged(self, memory, FORK_COUNTS | {43: 65535}, [copy(1)], [-2])
        # Frame 40 is led to by the first of the pages and by the last but one.
        check_unchanged(self, memory, FORK_COUNTS | {40: 65534}, [copy(1)], [-2])
        self.assertEqual(run(memory, FORK_COUNTS | {40: 65533, 43: 65534}, [copy(1)])[0], [0])

    def test_frames_of_other_trees_may_be_used_as_often_as_they_are(self):
        told = run(one_page(0x9000 | THERE), COUNTS | {99: 65535}, [copy(1)])
        self.assertEqual(told[0], [0])

    def test_too_few_frames_and_a_page_used_too_often(self):
        memory = one_page(0x9000 | TO_TABLE)
        check_unchanged(self, memory, all_but((7,)) | COUNTS | {9: 65535}, [copy(1)], [-2])

    def test_granted_when_frames_are_free_again(self):
        counts = all_but(range(250, 254)) | COUNTS
        told = run(one_page(0x9000 | TO_TABLE), counts, [copy(1), copy(1), copy(250), drop(1), copy(250)], [at(4, 8)])
        self.assertEqual(told[:5], [[250], [-2], [-2], [0], [1]])
        self.assertEqual(told[5], [0x9005 | COPIED, *uses(counts | {frame: 1 for frame in range(250, 254)} | {9: 2})])


if __name__ == "__main__":
    unittest.main()
