"""Promise 6 and, for it, 10: back."""

import unittest

from tests.helper import (
    COPIED, NX, THERE, TO_TABLE, TOP, USED, USERS, WRITABLE, WRITTEN,
    address, all_but, at, back, check_unchanged, give, look, new, read, run, share, uses, way, words_behind, write,
)

NUMBERS = (300, 6, 7, 8)
ADDR = address(NUMBERS)
COUNTS = {1: 1, 2: 1, 3: 1, 4: 1, 9: 1}


def one_page(last=0x9000 | TO_TABLE, bits=TO_TABLE):
    """The root 1 with one page, in frame 9, at NUMBERS."""
    return way(NUMBERS, last, bits=bits)[0]


def with_another(shared):
    """one_page with another page, in frame 20, that shares that many tables behind the root; and its counts."""
    tables = [1, 2, 3, 4]
    tables[shared + 1:] = range(11, 14 - shared)
    numbers = [number + (k == shared) for k, number in enumerate(NUMBERS)]
    other = way(numbers, 0x14000 | THERE, tables=tables)[0]
    counts = COUNTS | {table: 1 for table in tables} | {20: 1}
    return one_page() | other, other, counts


class BackPages(unittest.TestCase):
    def test_the_only_page(self):
        memory = one_page()
        self.assertEqual(run(memory, COUNTS, [back(1, ADDR)]), [[0], [1, 1]])
        self.assertEqual(words_behind(memory, COUNTS, [back(1, ADDR)]), {})

    def test_the_pages_bytes_stay(self):
        memory = one_page()
        stains = {at(9, 0): 1, at(9, 8): TOP - 1, at(9, 511): 7}
        words = words_behind(memory | stains, COUNTS, [back(1, ADDR)])
        self.assertEqual(words, stains)

    def test_the_page_is_used_once_less(self):
        for count in (1, 2, 3, 65535):
            with self.subTest(count=count):
                told = run(one_page(), COUNTS | {9: count}, [back(1, ADDR)])
                self.assertEqual(told, [[0], uses({1: 1, 9: count - 1})])

    def test_a_page_without_flags_and_one_with_all_bits(self):
        for last in (0x9000 | THERE, 0x9000 | TO_TABLE | COPIED | USED | WRITTEN | NX | 15 << 59,
                     0x9000 | THERE | 0b1101 << 8 | 3 << 3 | 127 << 52):
            with self.subTest(last=last):
                memory = one_page(last)
                self.assertEqual(run(memory, COUNTS, [back(1, ADDR)]), [[0], [1, 1]])
                self.assertEqual(words_behind(memory, COUNTS, [back(1, ADDR)]), {})

    def test_marks_and_keys_of_entries_to_tables_go_with_them(self):
        memory = one_page(bits=TO_TABLE | USED | WRITTEN | 5 << 59 | COPIED)
        self.assertEqual(words_behind(memory, COUNTS, [back(1, ADDR)]), {})

    def test_a_table_with_another_entry_stays_and_those_above_it(self):
        for shared in range(4):
            with self.subTest(shared=shared):
                memory, other, counts = with_another(shared)
                # Those tables stay on whose way the other page is.
                behind = counts | {9: 0} | {table: 0 for table in (2, 3, 4)[shared:]}
                self.assertEqual(run(memory, counts, [back(1, ADDR)]), [[0], uses(behind)])
                self.assertEqual(words_behind(memory, counts, [back(1, ADDR)]), other)

    def test_a_table_stays_for_an_entry_at_its_begin_or_end(self):
        for table in (2, 3, 4):
            for number in (0, 511):
                with self.subTest(table=table, number=number):
                    memory = one_page()
                    rest = {2: way((300, number, 1, 2), 0x14001, tables=(1, 2, 5, 6)),
                            3: way((300, 6, number, 2), 0x14001, tables=(1, 2, 3, 6)),
                            4: way((300, 6, 7, number), 0x14001)}[table][0]
                    counts = COUNTS | {20: 1} | {frame: 1 for frame in ((5, 6), (6,), ())[table - 2]}
                    words = words_behind(memory | rest, counts, [back(1, ADDR)], range(21))
                    self.assertEqual(words, rest)
                    gone = {frame: 0 for frame in range(table + 1, 5)}
                    told = run(memory | rest, counts, [back(1, ADDR)])
                    self.assertEqual(told, [[0], uses(counts | {9: 0} | gone)])

    def test_a_root_with_other_entries(self):
        memory, other, counts = with_another(0)
        numbers = (301, 6, 7, 8)
        told = run(memory, counts, [back(1, ADDR), back(1, address(numbers)), back(1, ADDR)])
        self.assertEqual(told, [[0], [0], [-3], [1, 1]])

    def test_a_page_that_is_led_to_twice(self):
        memory = one_page() | {at(4, 9): 0x9001}
        counts = COUNTS | {9: 2}
        told = run(memory, counts, [back(1, ADDR)], [at(4, 8), at(4, 9)])
        self.assertEqual(told, [[0], [0, 0x9001, *uses(COUNTS)]])
        told = run(memory, counts, [back(1, ADDR + 4096), back(1, ADDR)], [at(4, 8), at(4, 9)])
        self.assertEqual(told, [[0], [0], [0, 0, 1, 1]])

    def test_what_is_given_back_is_not_found_and_is_given_anew(self):
        cpu = (0, 0, 0)
        calls = [new(), give(0, 4096, 3), write(cpu, 4100, [5]), back(0, 4096), look(cpu, 4096, 0), give(0, 4096, 3),
                 read(cpu, 4100, 1), new()]
        told = run({}, {}, calls)
        self.assertEqual(told[:8], [[0], [4], [1, 0, 0, 0], [0], [1, 0, 4096], [4], [1, 0, 0, 0, 0], [5]])

    def test_what_is_freed_is_taken_from_the_lowest_on(self):
        memory = one_page()
        told = run(memory, COUNTS | {0: 1}, [back(1, ADDR), new(), new(), new(), new()])
        self.assertEqual(told[:5], [[0], [2], [3], [4], [5]])

    def test_a_shared_page_stays_with_the_other_tree(self):
        cpu = (0x1000, 0, 0)
        calls = [new(), new(), give(0, 0, 3), share(1, 0, 5, 3), write((0, 0, 0), 0, [8]), back(0, 0),
                 look((0, 0, 0), 0, 0), read(cpu, 0, 1), back(1, 0)]
        told = run({}, {}, calls)
        self.assertEqual(told[5:9], [[0], [1, 0, 0], [1, 0, 0, 0, 8], [0]])
        self.assertEqual(told[9], [0, 1, 1, 1])

    def test_lowest_and_highest_pages(self):
        for numbers in ((0, 0, 0, 0), (255, 511, 511, 511), (256, 0, 0, 0), (511, 511, 511, 511)):
            with self.subTest(numbers=numbers):
                memory = way(numbers, 0x9001)[0]
                self.assertEqual(run(memory, COUNTS, [back(1, address(numbers))]), [[0], [1, 1]])
                self.assertEqual(words_behind(memory, COUNTS, [back(1, address(numbers))]), {})

    def test_no_free_frame_is_needed(self):
        counts = all_but(()) | COUNTS
        told = run(one_page(), counts, [back(1, ADDR)])
        self.assertEqual(told, [[0], uses(counts | {2: 0, 3: 0, 4: 0, 9: 0})])


class BackRefused(unittest.TestCase):
    def test_addresses_that_are_not_a_pages(self):
        # Those that lie in the page, and those that are none but have its entries' numbers.
        for addr in (ADDR + 1, ADDR + 8, ADDR + 4095, ADDR ^ 1 << 47, ADDR ^ 1 << 48, ADDR ^ 1 << 63, ADDR % (1 << 48)):
            with self.subTest(addr=addr):
                check_unchanged(self, one_page(), COUNTS, [back(1, addr)], [-1])

    def test_a_table_that_is_not_there(self):
        for numbers in ((301, 6, 7, 8), (300, 7, 7, 8), (300, 6, 8, 8), (0, 0, 0, 0), (511, 511, 511, 511)):
            with self.subTest(numbers=numbers):
                check_unchanged(self, one_page(), COUNTS, [back(1, address(numbers))], [-3])

    def test_an_entry_that_is_not_there(self):
        for number in (0, 7, 9, 511):
            with self.subTest(number=number):
                check_unchanged(self, one_page(), COUNTS, [back(1, address((300, 6, 7, number)))], [-3])

    def test_a_root_alone(self):
        check_unchanged(self, {}, {1: 1}, [back(1, ADDR), back(1, 0)], [-3, -3])

    def test_what_is_asked_first(self):
        check_unchanged(self, {}, {1: 1}, [back(1, 1), back(1, 1 << 47), back(1, 4096)], [-1, -1, -3])

    def test_entries_that_may_not_be_written_are_a_page_too(self):
        for bits in (0, USERS, WRITABLE):
            told = run(one_page(0x9000 | THERE | bits), COUNTS, [back(1, ADDR)])
            self.assertEqual(told, [[0], [1, 1]])


if __name__ == "__main__":
    unittest.main()
