"""Promises 3, 4 and, for these calls, 10: new and give."""

import unittest

from tests.helper import (
    MEMORY_SIZE, NX, NX_KNOWN, PROTECT, READ, THERE, TO_TABLE, TOP, USED, USER, USERS, WRITABLE, WRITE, WRITTEN,
    address, all_but, frame_places, give, look, new, read, run, uses, way, write,
)

NUMBERS = (300, 6, 7, 8)
WHOLE_FRAME = 512


# The entries of the page at NUMBERS, the first one given to the root 9.
FIRST_WAY = {0x9960: 0x0007, 0x0030: 0x1007, 0x1038: 0x2007, 0x2040: 0x3001}


def beside(shared):
    """Numbers like NUMBERS, on whose way that many tables behind the root are the same."""
    return [number + (k == shared) for k, number in enumerate(NUMBERS)]


# Trees that are handed in have no table that is all 0: so the one at NUMBERS has a page beside it.
BESIDE_COUNTS = {1: 1, 2: 1, 3: 1, 4: 1, 9: 1}


def one_page_beside(bits):
    memory, places = way(NUMBERS, 0, bits=bits)
    memory[places[-1] + 8] = 0x9000 | THERE
    return memory, places


class New(unittest.TestCase):
    def test_the_lowest_free_frame(self):
        told = run({}, {0: 1, 1: 65535, 3: 2}, [new(), new(), new()])
        self.assertEqual(told, [[2], [4], [5], [0, 1, 1, 65535, 2, 1, 3, 2, 4, 1, 5, 1]])

    def test_first_and_last_frame(self):
        told = run({}, all_but((0, 255)), [new(), new()])
        self.assertEqual(told[:2], [[0], [255]])

    def test_a_count_of_0_is_free(self):
        self.assertEqual(run({}, {0: 1, 1: 0, 2: 1}, [new()])[0], [1])

    def test_it_is_all_0(self):
        memory = {place: TOP - 1 for frame in (1, 2, 3) for place in frame_places(frame)}
        edges = [0x1FF8, 0x2000, 0x2008, 0x2FF8, 0x3000]
        told = run(memory, {0: 1, 1: 1}, [new()], edges)
        self.assertEqual(told, [[2], [TOP - 1, 0, 0, 0, TOP - 1, 0, 1, 1, 1, 2, 1]])
        told = run(memory, {0: 1, 1: 1}, [new()], frame_places(2))
        self.assertEqual(told[1][:WHOLE_FRAME], [0] * WHOLE_FRAME)

    def test_last_frame_is_all_0(self):
        memory = {place: 1 for place in frame_places(255)}
        told = run(memory, all_but((255,)), [new()], [MEMORY_SIZE - 8, MEMORY_SIZE - 4096])
        self.assertEqual(told[1][:2], [0, 0])

    def test_no_frame_left(self):
        memory = {place: 7 for place in range(0, MEMORY_SIZE, 4096)}
        counts = all_but((9,))
        told = run(memory, counts, [new(), new(), new()], [0, 0x9000, 0xFF000])
        self.assertEqual(told, [[9], [-2], [-2], [7, 0, 7, *uses(counts | {9: 1})]])


class GivePages(unittest.TestCase):
    def test_all_tables_are_taken_from_level_3_on(self):
        told = run({}, {2: 1, 0: 1, 4: 1}, [give(2, address(NUMBERS), 3)],
                   [0x2000 + 300 * 8, 0x1000 + 6 * 8, 0x3000 + 7 * 8, 0x5000 + 8 * 8])
        entries = [0x1000 | TO_TABLE, 0x3000 | TO_TABLE, 0x5000 | TO_TABLE, 0x6000 | TO_TABLE]
        counts = {frame: 1 for frame in range(7)}
        self.assertEqual(told, [[6], entries + uses(counts)])

    def test_taken_frames_are_all_0_but_for_the_entry(self):
        memory = {place: TOP - 1 for frame in (1, 2, 3, 4) for place in frame_places(frame)}
        for frame, number in ((1, 6), (2, 7), (3, 8), (4, None)):
            with self.subTest(frame=frame):
                told = run(memory, {0: 1}, [give(0, address(NUMBERS), 0)], frame_places(frame))
                filled = [k for k in range(WHOLE_FRAME) if told[1][k] != 0]
                self.assertEqual(filled, [] if number is None else [number])

    def test_tables_that_are_there_are_used(self):
        # The first page takes frames 0 to 3; the second shares this many of its tables.
        for shared, entries in ((3, {0x2048: 0x4003}), (2, {0x1040: 0x4007, 0x4040: 0x5003}),
                                (1, {0x0038: 0x4007, 0x4038: 0x5007, 0x5040: 0x6003}),
                                (0, {0x9968: 0x4007, 0x4030: 0x5007, 0x5038: 0x6007, 0x6040: 0x7003})):
            with self.subTest(shared=shared):
                calls = [give(9, address(NUMBERS), 0), give(9, address(beside(shared)), 1)]
                told = run({}, {9: 1}, calls, [*FIRST_WAY, *entries])
                self.assertEqual(told[:2], [[3], [7 - shared]])
                counts = {frame: 1 for frame in (*range(8 - shared), 9)}
                self.assertEqual(told[2], [*FIRST_WAY.values(), *entries.values(), *uses(counts)])

    def test_marks_and_keys_on_the_way_stay(self):
        memory, places = one_page_beside(TO_TABLE | USED | WRITTEN | 5 << 59)
        told = run(memory, BESIDE_COUNTS, [give(1, address(NUMBERS), 0)], places)
        self.assertEqual(told[0], [0])
        self.assertEqual(told[1][:4], [memory[place] for place in places[:3]] + [THERE])

    def test_flags(self):
        bits = (0, WRITABLE, USERS, WRITABLE | USERS, NX, WRITABLE | NX, USERS | NX, WRITABLE | USERS | NX)
        for flags in range(8):
            with self.subTest(flags=flags):
                memory, places = one_page_beside(TO_TABLE)
                counts = BESIDE_COUNTS | {0: 1, 5: 2}
                told = run(memory, counts, [give(1, address(NUMBERS), flags)], [places[-1]])
                self.assertEqual(told, [[6], [0x6000 | THERE | bits[flags], *uses(counts | {6: 1})]])

    def test_what_is_given_is_found(self):
        addr = address(NUMBERS)
        cpu = (0, USER | PROTECT | NX_KNOWN, 0)
        calls = [give(0, addr, 7), write(cpu, addr + 5, [1, 2]), read(cpu, addr + 4, 4), look(cpu, addr, 2)]
        told = run({0x4000: TOP - 1}, {0: 1}, calls)
        self.assertEqual(told[:4], [[4], [2, 0, 0, 0], [4, 0, 0, 0, 0, 1, 2, 0], [1, 21, addr]])

    def test_two_pages_of_one_table(self):
        calls = [give(0, 0, 3), give(0, 4096, 3), give(0, TOP - 4096, 3), look((0, 0, 0), TOP - 1, READ)]
        told = run({}, {0: 1}, calls)
        self.assertEqual(told[:4], [[4], [5], [9], [0, 0x9FFF, 4096]])

    def test_two_trees(self):
        calls = [new(), new(), give(0, 0, 3), give(1, 0, 3), look((0, 0, 0), 0, WRITE), look((0x1000, 0, 0), 0, WRITE)]
        told = run({}, {}, calls)
        self.assertEqual(told[:6], [[0], [1], [5], [9], [0, 0x5000, 4096], [0, 0x9000, 4096]])

    def test_lowest_and_highest_pages(self):
        for numbers in ((0, 0, 0, 0), (255, 511, 511, 511), (256, 0, 0, 0), (511, 511, 511, 511)):
            with self.subTest(numbers=numbers):
                told = run({}, {0: 1}, [give(0, address(numbers), 0), look((0, 0, 0), address(numbers, 1), READ)])
                self.assertEqual(told[:2], [[4], [0, 0x4001, 4096]])


class GiveRefused(unittest.TestCase):
    def check(self, memory, counts, call, refusal, places=()):
        told = run(memory, counts, [call], places)
        self.assertEqual(told, [[refusal], [memory.get(place, 0) for place in places] + uses(counts)])

    def test_addresses_that_are_not_a_pages(self):
        for addr in (1, 4095, 4097, 8, 1 << 47, 1 << 48, 1 << 63, TOP - 1, TOP - (1 << 47) - 4096, 2048):
            with self.subTest(addr=addr):
                self.check({}, {0: 1}, give(0, addr, 0), -1, frame_places(0))

    def test_flags_above_7(self):
        for flags in (8, 9, 16, 4294967295):
            with self.subTest(flags=flags):
                self.check({}, {0: 1}, give(0, 0, flags), -1, frame_places(0))

    def test_a_page_that_is_there(self):
        for last in (0x9000 | THERE, 0x9000 | TO_TABLE | NX | USED | WRITTEN | 3 << 59, THERE):
            memory, places = way(NUMBERS, last)
            counts = {0: 1, 1: 1, 2: 1, 3: 1, 4: 1, 9: 2}
            self.check(memory, counts, give(1, address(NUMBERS), 3), -3, places)

    def test_what_is_asked_first(self):
        memory, places = way(NUMBERS, 0x9000 | TO_TABLE)
        counts = all_but(()) | {1: 1, 2: 1, 3: 1, 4: 1}
        self.check(memory, counts, give(1, address(NUMBERS), 8), -1, places)
        self.check(memory, counts, give(1, address(NUMBERS, 1), 0), -1, places)
        self.check(memory, counts, give(1, address(NUMBERS), 7), -3, places)
        self.check(memory, counts, give(1, address((300, 6, 7, 9)), 8), -1, places)
        self.check(memory, counts, give(1, address((300, 6, 7, 9)), 7), -2, places)

    def test_too_few_frames(self):
        stains = {frame * 4096 + 16: 99 for frame in range(254, 256)}
        for shared in range(4):
            needed = 4 - shared
            for free in range(needed + 1):
                with self.subTest(shared=shared, free=free):
                    self.check_too_few(shared, free, needed, stains)

    def check_too_few(self, shared, free, needed, stains):
        counts = all_but(range(252 - free, 256)) | {9: 1}
        first = give(9, address(NUMBERS), 0)
        second = give(9, address(beside(shared)), 3)
        places = [place for frame in (9, 252 - free, 253 - free, 254 - free) for place in frame_places(frame)]
        for chosen in (places[:1000], places[1000:], list(stains)):
            before = run(stains, counts, [first], chosen)
            after = run(stains, counts, [first, second, new()], chosen)
            if free == needed:
                self.assertEqual(after[:3], [[255 - free], [255], [-2]])
            elif free > 0:
                self.assertEqual(after[:3], [[255 - free], [-2], [256 - free]])
            else:
                self.assertEqual(after[:3], [[255 - free], [-2], [-2]])
            if free < needed:
                unmoved = run(stains, counts, [first, second], chosen)
                self.assertEqual(unmoved[2], before[1])

    def test_a_second_page_when_the_first_took_the_last_frame(self):
        counts = all_but((1, 2, 3, 4)) | {0: 1}
        told = run({}, counts, [give(0, 0, 3), give(0, 4096, 3), give(0, 0, 3)], [0x3000, 0x3008])
        self.assertEqual(told[:3], [[4], [-2], [-3]])
        self.assertEqual(told[3][:2], [0x4000 | TO_TABLE, 0])


if __name__ == "__main__":
    unittest.main()
