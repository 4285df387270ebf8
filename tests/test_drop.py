"""Promise 9: drop."""

import unittest

from tests.helper import (
    COPIED, NX, THERE, TO_TABLE, USED, WRITTEN,
    address, all_but, at, copy, drop, give, look, new, read, run, share, touch, uses, way, words_behind, write,
)

NUMBERS = (300, 6, 7, 8)
COUNTS = {1: 1, 2: 1, 3: 1, 4: 1, 9: 1}

# A tree that forks on each level; frame 40 is led to three times, from two tables.
FORKS = {
    at(1, 0): 0x2007, at(1, 511): 0x3007, at(2, 5): 0x4007, at(2, 6): 0x5007, at(3, 511): 0x6007,
    at(4, 0): 0x7007, at(5, 1): 0x8007, at(5, 511): 0x9007, at(6, 7): 0xA007,
    at(7, 0): 0x28001, at(7, 511): 0x28007, at(8, 3): 0x29005 | COPIED, at(9, 0): 0x28003 | NX, at(10, 511): 0x2A007,
}
TABLES = range(1, 11)
FORK_COUNTS = {table: 1 for table in TABLES} | {40: 3, 41: 1, 42: 1}


class Drop(unittest.TestCase):
    def test_a_root_alone(self):
        self.assertEqual(run({}, {5: 1, 6: 2}, [drop(5)]), [[0], [6, 2]])

    def test_one_page(self):
        memory = way(NUMBERS, 0x9007)[0]
        self.assertEqual(run(memory, COUNTS, [drop(1)]), [[0], []])

    def test_the_page_is_used_once_less(self):
        for count in (2, 3, 65535):
            memory = way(NUMBERS, 0x9007)[0]
            self.assertEqual(run(memory, COUNTS | {9: count}, [drop(1)]), [[0], [9, count - 1]])

    def test_each_page_once_less_for_each_time_it_is_led_to(self):
        self.assertEqual(run(FORKS, FORK_COUNTS, [drop(1)]), [[0], []])
        counts = FORK_COUNTS | {40: 65535, 41: 2, 42: 7, 0: 9, 255: 65535}
        self.assertEqual(run(FORKS, counts, [drop(1)]), [[0], uses({0: 9, 40: 65532, 41: 1, 42: 6, 255: 65535})])

    def test_a_whole_table_that_leads_to_one_page(self):
        memory = way(NUMBERS, 0x9007)[0] | {at(4, number): 0x9001 for number in range(512)}
        self.assertEqual(run(memory, COUNTS | {9: 600}, [drop(1)]), [[0], [9, 88]])

    def test_bytes_stay(self):
        memory = FORKS | {at(40, 0): 1, at(41, 511): 2, at(42, 7): 3, at(0, 0): 4, at(11, 0): 5}
        self.assertEqual(words_behind(memory, FORK_COUNTS, [drop(1)]), memory)

    def test_marks_keys_and_other_bits_mean_nothing(self):
        other = USED | WRITTEN | 15 << 59 | 127 << 52 | COPIED | 3 << 10 | 1 << 8 | 3 << 3
        memory = way(NUMBERS, 0x9000 | THERE | NX | other, bits=TO_TABLE | other)[0]
        self.assertEqual(run(memory, COUNTS, [drop(1)]), [[0], []])

    def test_frames_are_taken_anew_and_empty(self):
        memory = FORKS
        told = run(memory, FORK_COUNTS | {0: 1}, [drop(1), *[new()] * 11], [at(1, 0), at(7, 511), at(10, 511)])
        self.assertEqual(told[:12], [[0], *[[frame] for frame in range(1, 12)]])
        self.assertEqual(told[12][:3], [0, 0, 0])

    def test_a_freed_table_may_still_be_looked_through(self):
        addr = address(NUMBERS)
        memory = way(NUMBERS, 0x9007)[0]
        told = run(memory, COUNTS, [drop(1), look((0x1000, 0, 0), addr, 0)])
        self.assertEqual(told[:2], [[0], [0, 0x9000, 4096]])

    def test_the_other_tree_keeps_what_is_shared(self):
        cpu = (0x5000, 0, 0)
        calls = [new(), give(0, 0, 3), write((0, 0, 0), 0, [3, 4]), copy(0), drop(0), read(cpu, 0, 2), touch(5, 0),
                 share(5, 4096, 4, 0), drop(5)]
        told = run({}, {}, calls)
        self.assertEqual(told, [[0], [4], [2, 0, 0, 0], [5], [0], [2, 0, 0, 0, 3, 4], [0], [0], [0], []])

    def test_no_free_frame_is_needed(self):
        counts = all_but(()) | FORK_COUNTS
        behind = counts | {frame: 0 for frame in (*TABLES, 40, 41, 42)}
        self.assertEqual(run(FORKS, counts, [drop(1)]), [[0], uses(behind)])

    def test_first_and_last_frame(self):
        memory = way(NUMBERS, 0xFE007, tables=(255, 0, 1, 2))[0]
        self.assertEqual(run(memory, {255: 1, 0: 1, 1: 1, 2: 1, 254: 1}, [drop(255)]), [[0], []])
        self.assertEqual(run({}, {0: 1}, [drop(0)]), [[0], []])


if __name__ == "__main__":
    unittest.main()
