"""Promise 2: read and write."""

import random
import unittest

from tests.helper import (
    BIG, KEYS, LARGE, MEMORY_SIZE, MIDDLE, NX, NX_KNOWN, PROTECT, READ, THERE, TO_TABLE, TOP, USED, USER, USERS,
    WRITE, WRITTEN, address, look, read, run, way, write,
)

NUMBERS = (1, 2, 3, 4)
CPU = (0x1000, 0, 0)
HIGH = (511, 511, 511, 511)


def two_pages(second):
    """A page in frame 9 by NUMBERS, and behind it whatever the second entry says."""
    memory, places = way(NUMBERS, 0x9000 | TO_TABLE)
    memory[places[-1] + 8] = second
    return memory, places


class HowMany(unittest.TestCase):
    def test_numbers_that_are_not_granted(self):
        memory, places = way(NUMBERS, 0x9000 | TO_TABLE)
        for n in (-2147483648, -1, 65537, 2147483647):
            with self.subTest(n=n):
                calls = [read(CPU, address(NUMBERS), n), write(CPU, address(NUMBERS), [], n)]
                told = run(memory, {}, calls, places)
                self.assertEqual(told, [[-1], [-1], [memory[place] for place in places]])

    def test_it_is_refused_before_the_address_is_asked(self):
        told = run({}, {}, [read(CPU, 1 << 47, -1), write(CPU, 1 << 47, [], 65537)])
        self.assertEqual(told, [[-1], [-1], []])

    def test_none_at_all(self):
        memory, places = way(NUMBERS, 0x9000 | TO_TABLE)
        calls = []
        for addr in (address(NUMBERS), 0, 1 << 47):
            calls += [read(CPU, addr, 0), write(CPU, addr, [])]
        told = run(memory, {}, calls, places)
        self.assertEqual(told, [[0, 0, 0, 0]] * 6 + [[memory[place] for place in places]])

    def test_most_that_are_read(self):
        memory, places = way((0, 0, 0, 0), TO_TABLE | BIG, 2)
        memory[0x20000] = 0x0807060504030201
        told = run(memory, {}, [read(CPU, 0x20001, 65536)])[0]
        self.assertEqual(told[:13], [65536, 0, 0, 0, 2, 3, 4, 5, 6, 7, 8, 0, 0])
        self.assertEqual(told[4:], [2, 3, 4, 5, 6, 7, 8] + [0] * 65529)

    def test_most_that_are_written(self):
        memory, places = way((0, 0, 0, 0), TO_TABLE | BIG, 2)
        octets = [k % 251 for k in range(15700)]
        told = run(memory, {}, [write(CPU, 0x20003, octets), read(CPU, 0x20000, 15706)])
        self.assertEqual(told[0], [15700, 0, 0, 0])
        self.assertEqual(told[1], [15706, 0, 0, 0, 0, 0, 0, *octets, 0, 0, 0])


class Moved(unittest.TestCase):
    def test_read(self):
        memory, places = way(NUMBERS, 0x9000 | TO_TABLE)
        memory[0x9008] = 0x8877665544332211
        memory[0x9010] = 0xFF
        told = run(memory, {}, [read(CPU, address(NUMBERS, 11), 7)], places)
        self.assertEqual(told[0], [7, 0, 0, 0, 0x44, 0x55, 0x66, 0x77, 0x88, 0xFF, 0])
        self.assertEqual(told[1], [memory[place] | USED for place in places])

    def test_write(self):
        memory, places = way(NUMBERS, 0x9000 | TO_TABLE)
        memory[0x9008] = TOP - 1
        memory[0x9010] = TOP - 1
        told = run(memory, {}, [write(CPU, address(NUMBERS, 14), [1, 0, 255])], [*places, 0x9008, 0x9010])
        self.assertEqual(told[0], [3, 0, 0, 0])
        marked = [memory[place] | USED for place in places]
        marked[-1] |= WRITTEN
        self.assertEqual(told[1], [*marked, 0x0001FFFFFFFFFFFF, TOP - 1])

    def test_every_byte_of_a_word(self):
        memory, _ = way(NUMBERS, 0x9000 | TO_TABLE)
        memory[0x9000] = 0x8877665544332211
        for k in range(8):
            told = run(memory, {}, [write(CPU, address(NUMBERS, k), [0xA5])], [0x9000])
            shift = 8 * k
            expected = 0x8877665544332211 & ~(255 << shift) | 0xA5 << shift
            self.assertEqual(told[1], [expected])

    def test_over_the_end_of_a_page(self):
        memory, places = two_pages(0x7000 | TO_TABLE)
        memory[0x9FF8] = 0x0201 << 48
        memory[0x7000] = 0x0403
        told = run(memory, {}, [read(CPU, address(NUMBERS, 4094), 4), write(CPU, address(NUMBERS, 4095), [5, 6])],
                   [0x9FF8, 0x7000, places[-1], places[-1] + 8])
        self.assertEqual(told[0], [4, 0, 0, 0, 1, 2, 3, 4])
        self.assertEqual(told[1], [2, 0, 0, 0])
        marks = TO_TABLE | USED | WRITTEN
        self.assertEqual(told[2], [0x0501 << 48, 0x0406, 0x9000 | marks, 0x7000 | marks])

    def test_over_the_end_of_a_page_into_another_size(self):
        memory, _ = way((1, 2, 3, 511), 0x9000 | TO_TABLE)
        memory[0x3000 + 4 * 8] = TO_TABLE | BIG
        memory[0x9FF8] = 7 << 56
        memory[0] = 8
        told = run(memory, {}, [read(CPU, address((1, 2, 3, 511), 4095), 2)])
        self.assertEqual(told[0], [2, 0, 0, 0, 7, 8])

    def test_over_the_last_address_to_the_first(self):
        memory, _ = way(HIGH, 0x9000 | TO_TABLE)
        low, _ = way((0, 0, 0, 0), 0x7000 | TO_TABLE, tables=(1, 5, 6, 8))
        memory |= low
        memory[0x9FF8] = 0x0201 << 48
        memory[0x7000] = 0x0403
        told = run(memory, {}, [read(CPU, TOP - 2, 4), write(CPU, TOP - 1, [9, 8, 7])], [0x9FF8, 0x7000])
        self.assertEqual(told, [[4, 0, 0, 0, 1, 2, 3, 4], [3, 0, 0, 0], [0x0901 << 48, 0x0708]])

    def test_the_first_address_is_told_as_it_is(self):
        memory, _ = way(HIGH, 0x9000 | TO_TABLE)
        told = run(memory, {}, [read(CPU, TOP - 2, 4), write(CPU, TOP - 1, [9, 8])])
        self.assertEqual(told[:2], [[2, 1, 0, 0, 0, 0], [1, 1, 2, 0]])


class Stopped(unittest.TestCase):
    def test_up_to_a_page_that_is_not_there(self):
        memory, places = two_pages(0)
        memory[0x9FF8] = 0x0201 << 48
        addr = address(NUMBERS, 4094)
        for flags, code in ((0, 0), (USER, 4)):
            cpu = (0x1000, flags, 0)
            told = run(memory, {}, [read(cpu, addr, 4), write(cpu, addr, [5, 6, 7])], [0x9FF8])
            self.assertEqual(told, [[2, 1, code, addr + 2, 1, 2], [2, 1, code + 2, addr + 2], [0x0605 << 48]])

    def test_at_the_first_byte(self):
        addr = address(NUMBERS, 3)
        memory, places = way(NUMBERS, 0)
        told = run(memory, {}, [read(CPU, addr, 2), write(CPU, addr, [5, 6])], places)
        self.assertEqual(told, [[0, 1, 0, addr], [0, 1, 2, addr], [memory[place] for place in places]])

    def test_up_to_a_page_that_is_denied(self):
        memory, places = two_pages(0x7000 | THERE | USERS)
        addr = address(NUMBERS, 4095)
        told = run(memory, {}, [write((0x1000, PROTECT, 0), addr, [5, 6]), read((0x1000, PROTECT, 0), addr, 2)],
                   [0x7000])
        self.assertEqual(told, [[1, 1, 3, addr + 1], [2, 0, 0, 0, 5, 0], [0]])

    def test_up_to_a_key_that_denies(self):
        memory, _ = two_pages(0x7000 | TO_TABLE | 2 << 59)
        addr = address(NUMBERS, 4095)
        told = run(memory, {}, [read((0x1000, KEYS, 1 << 4), addr, 2), write((0x1000, KEYS, 1 << 4), addr, [1, 2])])
        self.assertEqual(told[:2], [[1, 1, 33, addr + 1, 0], [1, 1, 35, addr + 1]])

    def test_up_to_reserved_bits(self):
        memory, _ = two_pages(0x7000 | TO_TABLE | NX)
        addr = address(NUMBERS, 4095)
        told = run(memory, {}, [read(CPU, addr, 2), write(CPU, addr, [1, 2]), read((0x1000, NX_KNOWN, 0), addr, 2)])
        self.assertEqual(told[:3], [[1, 1, 9, addr + 1, 0], [1, 1, 11, addr + 1], [2, 0, 0, 0, 1, 0]])

    def test_up_to_a_table_beyond_the_memory(self):
        memory, _ = way((1, 2, 3, 511), 0x9000 | TO_TABLE)
        memory[0x3000 + 4 * 8] = 0x55555000 | TO_TABLE
        addr = address((1, 2, 3, 511), 4095)
        told = run(memory, {}, [read(CPU, addr, 2), write(CPU, addr, [3, 4])])
        self.assertEqual(told[:2], [[1, 2, 0x55555000, addr + 1, 0], [1, 2, 0x55555000, addr + 1]])

    def test_up_to_a_place_beyond_the_memory(self):
        memory, places = two_pages(MEMORY_SIZE + 0x5000 | TO_TABLE)
        addr = address(NUMBERS, 4095)
        second = places[-1] + 8
        told = run(memory, {}, [read(CPU, addr, 9)], [second])
        self.assertEqual(told, [[1, 2, MEMORY_SIZE + 0x5000, addr + 1, 0], [memory[second] | USED]])
        told = run(memory, {}, [write(CPU, addr, [3, 4])], [second])
        self.assertEqual(told, [[1, 2, MEMORY_SIZE + 0x5000, addr + 1], [memory[second] | USED | WRITTEN]])

    def test_over_the_memorys_end_within_a_big_page(self):
        for level, size in ((2, MIDDLE), (3, LARGE)):
            memory, places = way((0, 0, 0, 0), TO_TABLE | BIG, level)
            memory[MEMORY_SIZE - 8] = 0x0201 << 48
            calls = [read(CPU, MEMORY_SIZE - 2, 5), write(CPU, MEMORY_SIZE - 1, [7, 8])]
            told = run(memory, {}, calls, [MEMORY_SIZE - 8])
            beyond = [2, MEMORY_SIZE, MEMORY_SIZE]
            self.assertEqual(told, [[2, *beyond, 1, 2], [1, *beyond], [0x0701 << 48]])

    def test_up_to_an_address_that_is_none(self):
        numbers = (255, 511, 511, 511)
        memory, _ = way(numbers, 0x9000 | TO_TABLE)
        addr = (1 << 47) - 2
        told = run(memory, {}, [write(CPU, addr, [1, 2, 3]), read(CPU, addr, 3), read(CPU, 1 << 47, 1)])
        self.assertEqual(told[:3], [[2, 3, 0, 1 << 47], [2, 3, 0, 1 << 47, 1, 2], [0, 3, 0, 1 << 47]])

    def test_from_no_address_to_one(self):
        addr = TOP - (1 << 47) - 1
        told = run({}, {}, [read(CPU, addr, 2), write(CPU, addr, [1, 2])])
        self.assertEqual(told[:2], [[0, 3, 0, addr]] * 2)


class TablesThemselves(unittest.TestCase):
    def test_a_byte_that_is_read_bears_its_mark(self):
        memory, places = way(NUMBERS, 0x4000 | TO_TABLE)
        told = run(memory, {}, [read(CPU, address(NUMBERS, 32), 2)])
        self.assertEqual(told[0], [2, 0, 0, 0, TO_TABLE | USED, 0x40])

    def test_a_byte_is_written_behind_the_marks(self):
        memory, places = way(NUMBERS, 0x4000 | TO_TABLE)
        told = run(memory, {}, [write(CPU, address(NUMBERS, 32), [TO_TABLE])], [places[-1]])
        self.assertEqual(told, [[1, 0, 0, 0], [0x4000 | TO_TABLE]])

    def test_the_next_byte_goes_by_what_was_written(self):
        memory, places = way(NUMBERS, 0x4000 | TO_TABLE)
        # The second byte turns the page to frame 9, where the third one goes then.
        octets = [TO_TABLE, 0x90, 0x55]
        told = run(memory, {}, [write(CPU, address(NUMBERS, 32), octets)], [places[-1], 0x9020])
        self.assertEqual(told, [[3, 0, 0, 0], [0x9000 | TO_TABLE | USED | WRITTEN, 0x55 << 16]])

    def test_the_next_byte_is_stopped_by_what_was_written(self):
        memory, places = way(NUMBERS, 0x4000 | TO_TABLE)
        addr = address(NUMBERS, 32)
        told = run(memory, {}, [write(CPU, addr, [0, 1, 2])], [places[-1]])
        self.assertEqual(told, [[1, 1, 2, addr + 1], [0x4000]])

    def test_write_protection_by_what_was_written(self):
        memory, places = way(NUMBERS, 0x4000 | TO_TABLE)
        addr = address(NUMBERS, 32)
        told = run(memory, {}, [write((0x1000, PROTECT, 0), addr, [THERE, 0x90])], [places[-1]])
        self.assertEqual(told, [[1, 1, 3, addr + 1], [0x4001]])

    def test_a_higher_table_is_written(self):
        memory, places = way(NUMBERS, 0x1000 | TO_TABLE)
        addr = address(NUMBERS, 8 + 1)
        told = run(memory, {}, [write(CPU, addr, [0xF0, 0xFF, 0x00])], [places[0]])
        self.assertEqual(told, [[1, 1, 2, addr + 1], [0xF000 | TO_TABLE | USED]])

    def test_what_was_written_is_a_table_for_the_next_call(self):
        memory, places = way(NUMBERS, 0x4000 | TO_TABLE)
        octets = list((0x9000 | TO_TABLE).to_bytes(8, "little"))
        behind = address((1, 2, 3, 5))
        calls = [look(CPU, behind, READ), write(CPU, address(NUMBERS, 40), octets), look(CPU, behind, WRITE)]
        told = run(memory, {}, calls)
        self.assertEqual(told[:3], [[1, 0, behind], [8, 0, 0, 0], [0, 0x9000, 4096]])


class ByteByByte(unittest.TestCase):
    """What is moved at once is moved as if each byte were a call of its own."""

    def scene(self, chance):
        memory = {}
        for place in range(0x1000, 0x3000, 8):
            begin = chance.choice((0x1000, 0x2000, 0x3000, 0xFF000, 0x100000, 0x1FF000))
            bits = chance.choice((0, THERE, TO_TABLE, TO_TABLE, TO_TABLE, TO_TABLE, TO_TABLE | BIG))
            memory[place] = begin | bits
        return memory

    def check(self, memory, cpu, addr, count):
        places = list(range(0x1000, 0x1000 + 8000, 8))
        at_once = run(memory, {}, [read(cpu, addr, count)], places)
        one_by_one = run(memory, {}, [read(cpu, (addr + k) % TOP, 1) for k in range(count)], places)
        moved = at_once[0][0]
        self.assertEqual(at_once[0][4:], [answer[4] for answer in one_by_one[:moved]])
        if moved < count:
            self.assertEqual(one_by_one[moved], [0, *at_once[0][1:4]])
        else:
            self.assertEqual(at_once[0][1:4], [0, 0, 0])
            self.assertEqual(at_once[1], one_by_one[-1])

    def test_read(self):
        chance = random.Random(5)
        for _ in range(150):
            memory = self.scene(chance)
            numbers = [chance.choice((0, 1, 255, 256, 511)) for _ in range(4)]
            addr = (address(numbers, 4096) - chance.randrange(390)) % TOP
            self.check(memory, (0x1000, chance.choice((0, USER, PROTECT)), 0), addr, 390)


if __name__ == "__main__":
    unittest.main()
