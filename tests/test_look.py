"""Promise 1: look, but for what is denied (test_rights has that)."""

import unittest

from tests.helper import (
    BIG, EXECUTE, LARGE, MEMORY_SIZE, MIDDLE, NO_USER_CODE, NX, NX_KNOWN, READ, SMALL, THERE, TO_TABLE, TOP, USED,
    USER, WRITE, WRITTEN, address, look, run, way,
)

NUMBERS = (300, 6, 7, 8)
CPU = (0x1000, 0, 0)


def look_once(memory, cpu, addr, kind):
    return run(memory, {}, [look(cpu, addr, kind)])[0]


def words_behind(memory, places, calls):
    return run(memory, {}, calls, places)[-1]


class Kind(unittest.TestCase):
    def test_kinds_that_are_none(self):
        memory, places = way(NUMBERS, 0x9000 | TO_TABLE)
        for kind in (-2147483648, -1, 3, 4, 2147483647):
            with self.subTest(kind=kind):
                told = run(memory, {}, [look(CPU, address(NUMBERS), kind)], places)
                self.assertEqual(told, [[-1], [memory[place] for place in places]])

    def test_the_kind_is_asked_before_the_address(self):
        self.assertEqual(look_once({}, CPU, 1 << 47, 3), [-1])

    def test_each_kind_finds(self):
        memory, _ = way(NUMBERS, 0x9000 | TO_TABLE)
        for kind in (READ, WRITE, EXECUTE):
            with self.subTest(kind=kind):
                self.assertEqual(look_once(memory, CPU, address(NUMBERS, 5), kind), [0, 0x9005, SMALL])


class Found(unittest.TestCase):
    def test_small_page(self):
        memory, _ = way(NUMBERS, 0x9000 | TO_TABLE)
        for offset in (0, 1, 0x123, 4095):
            self.assertEqual(look_once(memory, CPU, address(NUMBERS, offset), READ), [0, 0x9000 + offset, SMALL])

    def test_bit_7_means_nothing_on_level_1(self):
        memory, _ = way(NUMBERS, 0xFF000 | TO_TABLE | BIG)
        self.assertEqual(look_once(memory, CPU, address(NUMBERS, 7), READ), [0, 0xFF007, SMALL])

    def test_page_of_level_2(self):
        memory, _ = way(NUMBERS, 3 * MIDDLE | TO_TABLE | BIG, 2)
        addr = address(NUMBERS, 0x123)
        self.assertEqual(look_once(memory, CPU, addr, READ), [0, 3 * MIDDLE + (8 << 12) + 0x123, MIDDLE])

    def test_page_of_level_3(self):
        memory, _ = way(NUMBERS, 5 * LARGE | TO_TABLE | BIG, 3)
        addr = address(NUMBERS, 0x123)
        self.assertEqual(look_once(memory, CPU, addr, READ), [0, 5 * LARGE + (7 << 21) + (8 << 12) + 0x123, LARGE])

    def test_bit_12_is_no_part_of_where_a_big_page_begins(self):
        for level, size in ((2, MIDDLE), (3, LARGE)):
            memory, _ = way(NUMBERS, 1 << 12 | TO_TABLE | BIG, level)
            addr = address(NUMBERS)
            self.assertEqual(look_once(memory, CPU, addr, READ), [0, addr % size, size])

    def test_last_byte_of_big_pages(self):
        for level, size in ((2, MIDDLE), (3, LARGE)):
            memory, _ = way((1, 2, 511, 511), TO_TABLE | BIG, level)
            self.assertEqual(look_once(memory, CPU, address((1, 2, 511, 511), 4095), READ), [0, size - 1, size])

    def test_a_place_beyond_the_memory_is_found_and_marked(self):
        for level, size in ((1, SMALL), (2, MIDDLE), (3, LARGE)):
            begin = (1 << 40) - size
            big = 0 if level == 1 else BIG
            memory, places = way((1, 2, 3, 4), begin | TO_TABLE | big, level)
            addr = address((1, 2, 3, 4), 9)
            told = run(memory, {}, [look(CPU, addr, WRITE)], places)
            self.assertEqual(told[0], [0, begin + addr % size, size])
            marked = [memory[place] | USED for place in places]
            marked[-1] |= WRITTEN
            self.assertEqual(told[1], marked)

    def test_first_place_beyond_the_memory(self):
        memory, _ = way(NUMBERS, MEMORY_SIZE | TO_TABLE)
        self.assertEqual(look_once(memory, CPU, address(NUMBERS), READ), [0, MEMORY_SIZE, SMALL])

    def test_bits_that_mean_nothing(self):
        memory, _ = way(NUMBERS, 0x9000 | TO_TABLE | 0x07F0000000000F18)
        cpu = (0xFFF0000000001FFF, TOP - 128, TOP - 1)
        self.assertEqual(look_once(memory, cpu, address(NUMBERS), WRITE), [0, 0x9000, SMALL])
        self.assertEqual(look_once(memory, cpu, address(NUMBERS), EXECUTE), [0, 0x9000, SMALL])

    def test_lowest_and_highest_entries(self):
        for number in (0, 511):
            numbers = (number, number, number, number)
            memory, _ = way(numbers, 0x9000 | TO_TABLE)
            self.assertEqual(look_once(memory, CPU, address(numbers, 4095), READ), [0, 0x9FFF, SMALL])

    def test_one_table_on_every_level(self):
        memory = {0x1000 + 8 * 3: 0x1000 | TO_TABLE}
        told = run(memory, {}, [look(CPU, address((3, 3, 3, 3), 24), WRITE)], [0x1018])
        self.assertEqual(told, [[0, 0x1018, SMALL], [0x1000 | TO_TABLE | USED | WRITTEN]])


class NoAddress(unittest.TestCase):
    def test_edges(self):
        memory, _ = way((0, 0, 0, 0), 0x9000 | TO_TABLE)
        for addr in (1 << 47, (1 << 47) + 5, 1 << 48, 1 << 63, TOP - (1 << 47) - 1, TOP - (1 << 48), (1 << 62) + 1):
            with self.subTest(addr=addr):
                self.assertEqual(look_once(memory, CPU, addr, READ), [3, 0, addr])

    def test_last_and_first_that_are_addresses(self):
        for addr in ((1 << 47) - 1, TOP - (1 << 47), TOP - 1, 0):
            with self.subTest(addr=addr):
                self.assertEqual(look_once({}, CPU, addr, READ), [1, 0, addr])

    def test_the_address_is_asked_before_the_tables(self):
        self.assertEqual(look_once({}, (MEMORY_SIZE, USER, 0), 1 << 47, WRITE), [3, 0, 1 << 47])


class Beyond(unittest.TestCase):
    def test_table_of_level_4(self):
        for root in (MEMORY_SIZE, 0x000FFFFFFFFFF000):
            self.assertEqual(look_once({}, (root | 0xFFF, USER, 0), 77, WRITE), [2, root, 77])

    def test_last_table_that_is_in_memory(self):
        self.assertEqual(look_once({}, (MEMORY_SIZE - 4096, 0, 0), 77, READ), [1, 0, 77])

    def test_tables_of_levels_3_to_1(self):
        for k in range(3):
            for begin in (MEMORY_SIZE, (1 << 40) - 4096):
                with self.subTest(level=3 - k, begin=begin):
                    memory, places = way(NUMBERS, 0x9000 | TO_TABLE)
                    memory[places[k]] = begin | TO_TABLE
                    told = run(memory, {}, [look(CPU, address(NUMBERS, 3), WRITE)], places)
                    self.assertEqual(told, [[2, begin, address(NUMBERS, 3)], [memory[place] for place in places]])


class NotThere(unittest.TestCase):
    def test_each_level(self):
        for k in range(4):
            with self.subTest(level=4 - k):
                memory, places = way(NUMBERS, 0x9000 | TO_TABLE)
                memory[places[k]] = TOP - 2
                told = run(memory, {}, [look(CPU, address(NUMBERS), READ)], places)
                self.assertEqual(told, [[1, 0, address(NUMBERS)], [memory[place] for place in places]])

    def test_codes(self):
        cases = (
            (0, READ, 0), (0, WRITE, 2), (0, EXECUTE, 0), (USER, READ, 4), (USER, WRITE, 6), (USER, EXECUTE, 4),
            (NX_KNOWN, EXECUTE, 16), (NO_USER_CODE, EXECUTE, 16), (NX_KNOWN | NO_USER_CODE, EXECUTE, 16),
            (USER | NX_KNOWN, EXECUTE, 20), (NX_KNOWN, READ, 0), (NO_USER_CODE, WRITE, 2), (127 - 12, EXECUTE, 4),
            (127, EXECUTE, 20), (127, READ, 4), (127, WRITE, 6), (TOP - 128, EXECUTE, 0),
        )
        for flags, kind, code in cases:
            with self.subTest(flags=flags, kind=kind):
                self.assertEqual(look_once({}, (0x1000, flags, TOP - 1), 55, kind), [1, code, 55])


class Reserved(unittest.TestCase):
    def check(self, memory, places, flags, code):
        addr = address(NUMBERS)
        told = run(memory, {}, [look((0x1000, flags, 0), addr, READ)], places)
        self.assertEqual(told, [[1, code, addr], [memory[place] for place in places]])

    def test_bits_40_to_51_on_each_level(self):
        for k in range(4):
            for bit in range(40, 52):
                with self.subTest(level=4 - k, bit=bit):
                    memory, places = way(NUMBERS, 0x9000 | TO_TABLE)
                    memory[places[k]] |= 1 << bit
                    self.check(memory, places, 0, 9)

    def test_bits_39_and_52_are_not_reserved(self):
        for bit in (39, 52):
            memory, _ = way(NUMBERS, 0x9000 | TO_TABLE | 1 << bit)
            place = 0x9000 + (1 << 39 if bit == 39 else 0)
            self.assertEqual(look_once(memory, CPU, address(NUMBERS), READ), [0, place, SMALL])

    def test_bit_63_on_each_level_if_not_executing_is_unknown(self):
        for k in range(4):
            with self.subTest(level=4 - k):
                memory, places = way(NUMBERS, 0x9000 | TO_TABLE)
                memory[places[k]] |= NX
                self.check(memory, places, 0, 9)
                self.check(memory, places, 127 - NX_KNOWN, 13)
                told = look_once(memory, (0x1000, NX_KNOWN, 0), address(NUMBERS), READ)
                self.assertEqual(told, [0, 0x9000, SMALL])

    def test_bit_7_on_level_4(self):
        memory, places = way(NUMBERS, 0x9000 | TO_TABLE)
        memory[places[0]] |= BIG
        self.check(memory, places, 0, 9)

    def test_lower_bits_of_big_pages(self):
        for level, bits in ((3, range(13, 30)), (2, range(13, 21))):
            for bit in bits:
                with self.subTest(level=level, bit=bit):
                    memory, places = way(NUMBERS, TO_TABLE | BIG | 1 << bit, level)
                    self.check(memory, places, 0, 9)

    def test_lowest_bits_of_where_big_pages_begin(self):
        for level, size in ((3, LARGE), (2, MIDDLE)):
            memory, _ = way((1, 2, 0, 0), TO_TABLE | BIG | size, level)
            self.assertEqual(look_once(memory, CPU, address((1, 2, 0, 0)), READ), [0, size, size])

    def test_lower_bits_of_entries_to_tables_are_not_reserved(self):
        tables = (1, 255, 254, 253)
        memory, _ = way(NUMBERS, 0xFF000 | TO_TABLE | BIG, tables=tables)
        self.assertEqual(look_once(memory, CPU, address(NUMBERS), READ), [0, 0xFF000, SMALL])

    def test_codes(self):
        memory, places = way(NUMBERS, 0x9000 | THERE | 1 << 45)
        cases = (
            (0, READ, 9), (0, WRITE, 11), (0, EXECUTE, 9), (USER, READ, 13), (USER, WRITE, 15), (USER, EXECUTE, 13),
            (NX_KNOWN, EXECUTE, 25), (NO_USER_CODE, EXECUTE, 25), (127, EXECUTE, 29), (127, WRITE, 15),
        )
        for flags, kind, code in cases:
            with self.subTest(flags=flags, kind=kind):
                told = look_once(memory, (0x1000, flags, TOP - 1), address(NUMBERS), kind)
                self.assertEqual(told, [1, code, address(NUMBERS)])

    def test_entry_by_entry(self):
        memory, places = way(NUMBERS, 0)
        memory[places[2]] |= 1 << 40
        self.check(memory, places, 0, 9)
        memory[places[1]] = 0
        self.check(memory, places, 0, 0)
        memory[places[0]] |= 1 << 51
        self.check(memory, places, 0, 9)

    def test_reserved_bits_are_told_before_what_is_denied(self):
        memory, places = way(NUMBERS, 0x9000 | THERE | 1 << 40)
        self.check(memory, places, USER, 13)

    def test_reserved_bits_are_told_before_the_next_table(self):
        memory, places = way(NUMBERS, 0)
        memory[places[1]] = MEMORY_SIZE | TO_TABLE | 1 << 40
        self.check(memory, places, 0, 9)


class Marks(unittest.TestCase):
    def check(self, level, last, kind):
        memory, places = way(NUMBERS, last, level)
        marked = [memory[place] | USED for place in places]
        if kind == WRITE:
            marked[-1] |= WRITTEN
        calls = [look(CPU, address(NUMBERS), kind)]
        self.assertEqual(words_behind(memory, places, calls), marked)
        self.assertEqual(words_behind(memory, places, calls * 2), marked)

    def test_every_entry_of_each_size(self):
        for level, big in ((1, 0), (2, BIG), (3, BIG)):
            for kind in (READ, WRITE, EXECUTE):
                with self.subTest(level=level, kind=kind):
                    self.check(level, TO_TABLE | big, kind)

    def test_marks_that_are_there_stay(self):
        memory, places = way(NUMBERS, 0x9000 | TO_TABLE | WRITTEN, bits=TO_TABLE | USED | WRITTEN)
        told = words_behind(memory, places, [look(CPU, address(NUMBERS), READ)])
        self.assertEqual(told, [memory[place] | USED for place in places])

    def test_nothing_else_changes(self):
        memory, places = way(NUMBERS, 0x9000 | TO_TABLE)
        others = [place + side for place in places for side in (-8, 8)]
        for place in others:
            memory[place] = TOP - 1
        told = words_behind(memory, others, [look(CPU, address(NUMBERS), WRITE)])
        self.assertEqual(told, [TOP - 1] * len(others))

    def test_none_where_it_is_denied(self):
        memory, places = way(NUMBERS, 0x9000 | THERE)
        calls = [look((0x1000, USER, 0), address(NUMBERS), kind) for kind in (READ, WRITE, EXECUTE)]
        self.assertEqual(words_behind(memory, places, calls), [memory[place] for place in places])


if __name__ == "__main__":
    unittest.main()
