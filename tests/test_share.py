"""Promise 5 and, for it, 10: share."""

import unittest

from tests.helper import (
    NX, PROTECT, THERE, TO_TABLE, TOP, USED, USER, USERS, WRITABLE, WRITTEN,
    address, all_but, at, back, check_unchanged, frame_places, give, new, read, run, share, uses, way, words_behind,
    write,
)

NUMBERS = (300, 6, 7, 8)
ADDR = address(NUMBERS)

# The entries of a page without flags at NUMBERS, the first one that the root 9 is given: it is in frame 3.
FIRST_WAY = {at(9, 300): 0x0007, at(0, 6): 0x1007, at(1, 7): 0x2007, at(2, 8): 0x3001}


def beside(shared):
    """An address on whose way that many tables behind the root are those of NUMBERS."""
    return address([number + (k == shared) for k, number in enumerate(NUMBERS)])


def one_page(last=0x9000 | THERE):
    """The root 1 with one page, in frame 9, at NUMBERS."""
    memory, _ = way(NUMBERS, last)
    return memory, {1: 1, 2: 1, 3: 1, 4: 1, 9: 1}


class SharePages(unittest.TestCase):
    def test_all_tables_are_taken_from_level_3_on(self):
        counts = {2: 1, 0: 1, 4: 1, 7: 3}
        entries = {at(2, 300): 0x1007, at(1, 6): 0x3007, at(3, 7): 0x5007, at(5, 8): 0x7007}
        told = run({}, counts, [share(2, ADDR, 7, 3)], list(entries))
        behind = {0: 1, 1: 1, 2: 1, 3: 1, 4: 1, 5: 1, 7: 4}
        self.assertEqual(told, [[0], [*entries.values(), *uses(behind)]])

    def test_taken_tables_are_all_0_but_for_the_entry(self):
        memory = {place: TOP - 1 for frame in (1, 2, 3, 4) for place in frame_places(frame)}
        words = words_behind(memory, {0: 1, 4: 1}, [share(0, ADDR, 4, 0)], range(6))
        tables = {at(0, 300): 0x1007, at(1, 6): 0x2007, at(2, 7): 0x3007, at(3, 8): 0x4001}
        page = {place: TOP - 1 for place in frame_places(4)}
        self.assertEqual(words, tables | page)

    def test_tables_that_are_there_are_used(self):
        for shared, entries in ((3, {at(2, 9): 0x3003}), (2, {at(1, 8): 0x4007, at(4, 8): 0x3003}),
                                (1, {at(0, 7): 0x4007, at(4, 7): 0x5007, at(5, 8): 0x3003}),
                                (0, {at(9, 301): 0x4007, at(4, 6): 0x5007, at(5, 7): 0x6007, at(6, 8): 0x3003})):
            with self.subTest(shared=shared):
                calls = [give(9, ADDR, 0), share(9, beside(shared), 3, 1)]
                told = run({}, {9: 1}, calls)
                tables = {frame: 1 for frame in range(4, 7 - shared)}
                behind = {0: 1, 1: 1, 2: 1, 3: 2, 9: 1} | tables
                self.assertEqual(told, [[3], [0], uses(behind)])
                self.assertEqual(words_behind({}, {9: 1}, calls, range(10)), FIRST_WAY | entries)

    def test_flags(self):
        bits = (0, WRITABLE, USERS, WRITABLE | USERS, NX, WRITABLE | NX, USERS | NX, WRITABLE | USERS | NX)
        for flags in range(8):
            with self.subTest(flags=flags):
                memory, counts = one_page()
                told = run(memory, counts | {6: 2}, [share(1, address((300, 6, 7, 9)), 6, flags)], [at(4, 9)])
                self.assertEqual(told, [[0], [0x6000 | THERE | bits[flags], *uses(counts | {6: 3})]])

    def test_entries_and_marks_on_the_way_stay(self):
        bits = TO_TABLE | USED | WRITTEN | 5 << 59
        memory, places = way(NUMBERS, 0x9000 | THERE, bits=bits)
        counts = {1: 1, 2: 1, 3: 1, 4: 1, 9: 1}
        words = words_behind(memory, counts, [share(1, beside(3), 9, 0)], range(10))
        self.assertEqual(words, memory | {at(4, 9): 0x9001})

    def test_the_pages_bytes_stay(self):
        memory, counts = one_page()
        memory |= {place: place + 1 for place in frame_places(9)}
        words = words_behind(memory, counts, [share(1, beside(3), 9, 7)], range(10))
        self.assertEqual(words, memory | {at(4, 9): 0x9000 | TO_TABLE | NX})

    def test_first_and_last_frame(self):
        counts = {0: 1, 1: 1, 255: 1}
        for frame in (0, 255):
            with self.subTest(frame=frame):
                memory = {at(frame): 0x55}
                told = run(memory, counts, [share(1, 0, frame, 0), read((0x1000, 0, 0), 0, 2)], [at(4)])
                behind = counts | {2: 1, 3: 1, 4: 1, frame: 2}
                self.assertEqual(told, [[0], [2, 0, 0, 0, 0x55, 0], [frame << 12 | THERE | USED, *uses(behind)]])

    def test_used_65534_times(self):
        calls = [share(0, 0, 9, 0), share(0, 4096, 9, 0)]
        told = run({}, {0: 1, 9: 65534}, calls, [at(3, 0), at(3, 1)])
        self.assertEqual(told, [[0], [-1], [0x9001, 0, *uses({0: 1, 1: 1, 2: 1, 3: 1, 9: 65535})]])

    def test_used_65533_times(self):
        calls = [share(0, 0, 9, 0), share(0, 4096, 9, 0), share(0, 8192, 9, 0)]
        told = run({}, {0: 1, 9: 65533}, calls)
        self.assertEqual(told, [[0], [0], [-1], uses({0: 1, 1: 1, 2: 1, 3: 1, 9: 65535})])

    def test_often_in_one_tree(self):
        calls = [give(0, 0, 3), *[share(0, 4096 * k, 4, 3) for k in range(1, 300)]]
        told = run({}, {0: 1}, calls, [at(3, 299), at(3, 300)])
        self.assertEqual(told[:300], [[4]] + [[0]] * 299)
        self.assertEqual(told[300], [0x4007, 0, *uses({0: 1, 1: 1, 2: 1, 3: 1, 4: 300})])

    def test_what_is_written_at_one_address_is_read_at_the_other(self):
        user = USER | PROTECT
        calls = [new(), new(), give(0, 0, 3), share(1, ADDR, 5, 2), share(0, 4096, 5, 0),
                 write((0, user, 0), 7, [1, 2, 3]), read((0x1000, user, 0), ADDR + 6, 4), read((0, 0, 0), 4096 + 8, 2),
                 write((0x1000, user, 0), ADDR, [1]), read((0, user, 0), 4096, 1)]
        told = run({}, {}, calls)
        self.assertEqual(told[:10], [
            [0], [1], [5], [0], [0], [3, 0, 0, 0], [4, 0, 0, 0, 0, 1, 2, 3], [2, 0, 0, 0, 2, 3],
            [0, 1, 7, ADDR], [0, 1, 5, 4096],
        ])
        self.assertEqual(told[10], uses({frame: 1 for frame in range(9)} | {5: 3}))

    def test_a_frame_is_shared_whatever_it_is_used_for(self):
        # The root itself, one of its tables, and the root of another tree.
        for frame in (1, 3, 5):
            with self.subTest(frame=frame):
                memory, counts = one_page()
                counts[5] = 1
                told = run(memory, counts, [share(1, beside(3), frame, 0)], [at(4, 9)])
                self.assertEqual(told, [[0], [frame << 12 | THERE, *uses(counts | {frame: 2})]])

    def test_no_frame_is_taken_for_the_page(self):
        for shared in range(4):
            with self.subTest(shared=shared):
                memory, counts = one_page()
                free = range(250, 253 - shared)
                told = run(memory, all_but(free) | counts, [share(1, beside(shared), 9, 1), new()])
                behind = all_but(free) | counts | {frame: 1 for frame in free} | {9: 2}
                self.assertEqual(told, [[0], [-2], uses(behind)])

    def test_lowest_and_highest_pages(self):
        for numbers in ((0, 0, 0, 0), (255, 511, 511, 511), (256, 0, 0, 0), (511, 511, 511, 511)):
            with self.subTest(numbers=numbers):
                places = [at(frame, number) for frame, number in enumerate(numbers)]
                told = run({}, {0: 1, 9: 1}, [share(0, address(numbers), 9, 0)], places)
                self.assertEqual(told[1][:4], [0x1007, 0x2007, 0x3007, 0x9001])


class ShareRefused(unittest.TestCase):
    def check(self, memory, counts, call, refusal):
        check_unchanged(self, memory, counts, [call], [refusal])

    def test_addresses_that_are_not_a_pages(self):
        for addr in (1, 4095, 4097, 8, 2048, 1 << 47, 1 << 48, 1 << 63, TOP - 1, TOP - (1 << 47) - 4096):
            with self.subTest(addr=addr):
                self.check({}, {0: 1, 9: 1}, share(0, addr, 9, 0), -1)

    def test_flags_above_7(self):
        for flags in (8, 9, 16, 4294967295):
            with self.subTest(flags=flags):
                self.check({}, {0: 1, 9: 1}, share(0, 0, 9, flags), -1)

    def test_frames_that_are_none(self):
        for frame in (256, 257, 265, 65536, 4294967295):
            with self.subTest(frame=frame):
                self.check({}, {0: 1, 9: 1, 1: 1}, share(0, 0, frame, 0), -1)

    def test_a_free_frame(self):
        for frame in (1, 8, 254, 255):
            with self.subTest(frame=frame):
                self.check({at(frame, 3): 5}, {0: 1, 9: 1}, share(0, 0, frame, 0), -1)

    def test_a_frame_used_65535_times(self):
        self.check({}, {0: 1, 9: 65535}, share(0, 0, 9, 0), -1)

    def test_a_page_that_is_there(self):
        for last in (0x9000 | THERE, 0x9000 | TO_TABLE | NX | USED | WRITTEN | 3 << 59, THERE):
            with self.subTest(last=last):
                memory, counts = one_page(last)
                self.check(memory, counts | {0: 1}, share(1, ADDR, 9, 3), -3)

    def test_what_is_asked_first(self):
        memory, counts = one_page()
        full = all_but(()) | counts | {77: 65535}
        free_at_5 = full | {5: 0}
        there, not_there = ADDR, beside(0)
        for addr in (there, not_there):
            self.check(memory, full, share(1, addr + 1, 9, 0), -1)
            self.check(memory, full, share(1, addr, 9, 8), -1)
            self.check(memory, full, share(1, addr, 256, 0), -1)
            self.check(memory, full, share(1, addr, 77, 0), -1)
            self.check(memory, free_at_5, share(1, addr, 5, 0), -1)
        self.check(memory, full, share(1, there, 9, 7), -3)
        self.check(memory, full, share(1, not_there, 9, 7), -2)

    def test_too_few_frames(self):
        for shared in range(3):
            for free in range(3 - shared):
                with self.subTest(shared=shared, free=free):
                    memory, counts = one_page()
                    memory |= {at(250 + k, 511): 99 for k in range(free)}
                    full = all_but(range(250, 250 + free)) | counts
                    self.check(memory, full, share(1, beside(shared), 9, 3), -2)

    def test_refused_more_than_once_and_then_granted(self):
        memory, counts = one_page()
        full = all_but((200,)) | counts
        calls = [share(1, beside(1), 9, 0), share(1, ADDR, 9, 0), share(1, beside(2), 9, 0), back(1, beside(2)),
                 share(1, beside(2), 9, 0), share(1, beside(2), 9, 0)]
        told = run(memory, full, calls, [at(3, 8), at(200, 8)])
        self.assertEqual(told[:6], [[-2], [-3], [0], [0], [0], [-3]])
        self.assertEqual(told[6], [0xC8007, 0x9001, *uses(full | {9: 2, 200: 1})])


if __name__ == "__main__":
    unittest.main()
