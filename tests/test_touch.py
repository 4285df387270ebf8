"""Promise 8 and, for it, 10: touch."""

import unittest

from tests.helper import (
    COPIED, NX, PROTECT, THERE, TO_TABLE, TOP, USED, USER, USERS, WRITABLE, WRITTEN,
    address, all_but, at, check_unchanged, copy, frame_places, give, new, read, run, share, touch, uses, way,
    words_behind, write,
)

NUMBERS = (300, 6, 7, 8)
ADDR = address(NUMBERS)
COUNTS = {1: 1, 2: 1, 3: 1, 4: 1, 9: 1}
TO_COPY = 0x9000 | THERE | COPIED

# All that an entry to a page may have besides, in a sound tree.
OTHER_BITS = (USERS, 3 << 3, USED, WRITTEN, 1 << 8, 3 << 10, 127 << 52, 15 << 59, NX)


def one_page(last=TO_COPY):
    """The root 1 with one page, in frame 9, at NUMBERS."""
    return way(NUMBERS, last)[0]


class UsedOnce(unittest.TestCase):
    def test_it_may_be_written_and_stays_where_it_is(self):
        memory = one_page() | {at(9, 3): 77}
        self.assertEqual(run(memory, COUNTS, [touch(1, ADDR)]), [[0], uses(COUNTS)])
        words = words_behind(memory, COUNTS, [touch(1, ADDR)])
        self.assertEqual(words, memory | {at(4, 8): 0x9000 | THERE | WRITABLE})

    def test_any_address_of_the_page(self):
        for offset in (0, 1, 8, 2048, 4095):
            with self.subTest(offset=offset):
                told = run(one_page(), COUNTS, [touch(1, ADDR + offset)], [at(4, 8)])
                self.assertEqual(told, [[0], [0x9003, *uses(COUNTS)]])

    def test_other_bits_stay(self):
        for other in (*OTHER_BITS, sum(OTHER_BITS), WRITABLE):
            with self.subTest(other=other):
                told = run(one_page(TO_COPY | other), COUNTS, [touch(1, ADDR)], [at(4, 8)])
                self.assertEqual(told, [[0], [0x9000 | THERE | WRITABLE | other, *uses(COUNTS)]])

    def test_a_second_time_there_is_nothing_to_copy(self):
        told = run(one_page(), COUNTS, [touch(1, ADDR), touch(1, ADDR)], [at(4, 8)])
        self.assertEqual(told, [[0], [-3], [0x9003, *uses(COUNTS)]])

    def test_no_frame_is_needed(self):
        counts = all_but(()) | COUNTS
        self.assertEqual(run(one_page(), counts, [touch(1, ADDR)]), [[0], uses(counts)])

    def test_the_entries_on_the_way_are_not_marked(self):
        words = words_behind(one_page(), COUNTS, [touch(1, ADDR + 5)])
        self.assertEqual(words, one_page() | {at(4, 8): 0x9003})


class UsedOftener(unittest.TestCase):
    def test_the_lowest_free_frame(self):
        for count, free in ((2, 0), (2, 200), (3, 5), (65535, 255)):
            with self.subTest(count=count, free=free):
                counts = {frame: 3 for frame in range(free)} | COUNTS | {9: count}
                told = run(one_page(), counts, [touch(1, ADDR)], [at(4, 8)])
                behind = counts | {free: 1, 9: count - 1}
                self.assertEqual(told, [[1], [free << 12 | THERE | WRITABLE, *uses(behind)]])

    def test_all_bytes_of_the_page(self):
        bytes_of_page = {place: (place * 0x123456789ABCDEF) % TOP for place in frame_places(9)}
        stains = {place: TOP - 1 for frame in (0, 5) for place in frame_places(frame)}
        memory = one_page() | bytes_of_page | stains
        words = words_behind(memory, COUNTS | {9: 2}, [touch(1, ADDR)])
        own = {place - 0x9000: word for place, word in bytes_of_page.items()}
        expected = one_page() | bytes_of_page | stains | own | {at(4, 8): 0x0003}
        self.assertEqual(words, {place: word for place, word in expected.items() if word})

    def test_bytes_of_0_too(self):
        stains = {place: TOP - 1 for place in frame_places(0)}
        words = words_behind(one_page() | stains, COUNTS | {9: 2}, [touch(1, ADDR)])
        self.assertEqual(words, one_page() | {at(4, 8): 0x0003})

    def test_any_address_of_the_page(self):
        for offset in (0, 1, 8, 2048, 4095):
            with self.subTest(offset=offset):
                told = run(one_page() | {at(9): 5}, COUNTS | {9: 2}, [touch(1, ADDR + offset)], [at(4, 8), at(0)])
                self.assertEqual(told, [[1], [0x0003, 5, *uses(COUNTS | {0: 1})]])

    def test_other_bits_stay(self):
        for other in (*OTHER_BITS, sum(OTHER_BITS), WRITABLE):
            with self.subTest(other=other):
                told = run(one_page(0xFF000 | THERE | COPIED | other), COUNTS | {255: 2}, [touch(1, ADDR)], [at(4, 8)])
                self.assertEqual(told, [[1], [THERE | WRITABLE | other, *uses(COUNTS | {0: 1, 255: 1})]])

    def test_led_to_twice_by_one_tree(self):
        memory = one_page() | {at(4, 9): TO_COPY | USERS, at(9, 511): 6}
        calls = [touch(1, ADDR), touch(1, ADDR + 4096)]
        told = run(memory, COUNTS | {9: 2}, calls, [at(4, 8), at(4, 9), at(0, 511), at(9, 511)])
        self.assertEqual(told, [[1], [0], [0x0003, 0x9007, 6, 6, *uses(COUNTS | {0: 1})]])

    def test_the_other_entry_stays_as_it_is(self):
        memory = one_page() | {at(4, 9): TO_COPY | USERS}
        words = words_behind(memory, COUNTS | {9: 2}, [touch(1, ADDR)])
        self.assertEqual(words, memory | {at(4, 8): 0x0003})

    def test_what_is_written_then_is_seen_in_one_tree_alone(self):
        user = USER | PROTECT
        one, two = (0, user, 0), (0x5000, user, 0)
        calls = [new(), give(0, 4096, 3), write(one, 4096, [1, 2, 3]), copy(0), touch(5, 4098), write(two, 4097, [9]),
                 read(one, 4096, 3), read(two, 4096, 3), write(one, 4096, [7]), touch(0, 8191), write(one, 4096, [7]),
                 read(two, 4096, 3), read(one, 4096, 3)]
        told = run({}, {}, calls)
        self.assertEqual(told[3:13], [
            [5], [1], [1, 0, 0, 0], [3, 0, 0, 0, 1, 2, 3], [3, 0, 0, 0, 1, 9, 3],
            [0, 1, 7, 4096], [0], [1, 0, 0, 0], [3, 0, 0, 0, 1, 9, 3], [3, 0, 0, 0, 7, 2, 3],
        ])
        self.assertEqual(told[13], uses({frame: 1 for frame in range(10)}))

    def test_lowest_and_highest_addresses(self):
        for numbers in ((0, 0, 0, 0), (255, 511, 511, 511), (256, 0, 0, 0), (511, 511, 511, 511)):
            for offset in (0, 4095):
                with self.subTest(numbers=numbers, offset=offset):
                    memory = way(numbers, TO_COPY)[0]
                    told = run(memory, COUNTS | {9: 2}, [touch(1, address(numbers, offset))], [at(4, numbers[3])])
                    self.assertEqual(told, [[1], [0x0003, *uses(COUNTS | {0: 1})]])


class TouchRefused(unittest.TestCase):
    def test_addresses_that_are_none(self):
        for addr in (ADDR ^ 1 << 47, ADDR ^ 1 << 48, ADDR ^ 1 << 63, ADDR % (1 << 48), 1 << 47, TOP - (1 << 47) - 1):
            with self.subTest(addr=addr):
                check_unchanged(self, one_page(), COUNTS | {9: 2}, [touch(1, addr)], [-1])

    def test_no_page(self):
        for numbers in ((301, 6, 7, 8), (300, 7, 7, 8), (300, 6, 8, 8), (300, 6, 7, 9), (0, 0, 0, 0)):
            with self.subTest(numbers=numbers):
                check_unchanged(self, one_page(), COUNTS | {9: 2}, [touch(1, address(numbers, 5))], [-3])

    def test_a_root_alone(self):
        check_unchanged(self, {}, {1: 1}, [touch(1, ADDR)], [-3])

    def test_a_page_that_is_not_to_be_copied(self):
        for last in (0x9000 | THERE, 0x9000 | TO_TABLE, 0x9000 | THERE | sum(OTHER_BITS)):
            for count in (1, 2):
                with self.subTest(last=last, count=count):
                    check_unchanged(self, one_page(last), COUNTS | {9: count}, [touch(1, ADDR)], [-3])

    def test_bit_9_on_the_way_means_nothing(self):
        memory = way(NUMBERS, 0x9000 | THERE, bits=TO_TABLE | COPIED)[0]
        calls = [touch(1, ADDR), touch(1, ADDR + 4096)]
        check_unchanged(self, memory, COUNTS | {9: 2}, calls, [-3, -3])

    def test_no_free_frame(self):
        for count in (2, 65535):
            with self.subTest(count=count):
                counts = all_but(()) | COUNTS | {9: count}
                check_unchanged(self, one_page(TO_COPY | USED), counts, [touch(1, ADDR + 1)], [-2])

    def test_what_is_asked_first(self):
        counts = all_but(()) | COUNTS | {9: 2}
        check_unchanged(self, one_page(0x9001), counts, [touch(1, ADDR ^ 1 << 47), touch(1, ADDR)], [-1, -3])
        check_unchanged(self, one_page(), counts, [touch(1, ADDR + 4096), touch(1, ADDR)], [-3, -2])

    def test_a_shared_page_is_not_to_be_copied_by_that_alone(self):
        told = run({}, {}, [new(), give(0, 0, 3), share(0, 4096, 4, 3), touch(0, 0), touch(0, 4096)])
        self.assertEqual(told[3:5], [[-3], [-3]])


if __name__ == "__main__":
    unittest.main()
