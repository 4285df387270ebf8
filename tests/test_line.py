"""The interface: how a line is told and answered; lay, tell."""

import unittest

from pagedmemory.machine import answers
from tests.helper import (
    MEMORY_SIZE, TO_TABLE, TOP, address, give, lay, line, look, new, read, run, tell, way, write,
)


def long_line():
    numbers = (5, 6, 7, 8)
    memory, places = way(numbers, 9 * 4096 | TO_TABLE)
    addr = address(numbers, 4090)
    cpu = (0x1000, 0, 0)
    counts = {1: 1, 2: 1, 3: 1, 4: 1, 9: 1, 200: 65535}
    calls = [
        look(cpu, addr, 1), look(cpu, addr, 7), write(cpu, addr, [1, 2, 3]), read(cpu, addr, 9), read(cpu, addr, -1),
        new(), give(1, address((5, 6, 7, 9)), 3), give(1, 1, 0), read(cpu, addr, 9),
    ]
    return line(memory, counts, calls, [*places, 9 * 4096 + 4088])


class Line(unittest.TestCase):
    def test_shortest_line(self):
        self.assertEqual(answers([11, 0, 0, 0, 0]), [0, 0])

    def test_answers_stand_behind_their_lengths(self):
        told = answers([11, 2, 12288, 77, 2, 3, 5, 4, 4, 1, 4096, 0, 0, 0, 3, 0, 2, 12288, 16])
        self.assertEqual(told, [0, 1, 0, 1, 1, 1, -1, 8, 77, 0, 0, 1, 1, 1, 3, 5])

    def test_a_refusal_is_one_number(self):
        told = answers(line({}, {}, [look((0, 0, 0), 0, 3), read((0, 0, 0), 0, -1), give(0, 1, 0)]))
        self.assertEqual(told, [0, 1, -1, 1, -1, 1, -1, 0])

    def test_all_kinds_of_answers_in_one_line(self):
        addr = address((5, 6, 7, 8), 4090)
        self.assertEqual(answers(long_line()), [
            0,
            3, 0, 9 * 4096 + 4090, 4096,
            1, -1,
            4, 3, 0, 0, 0,
            10, 6, 1, 0, addr + 6, 1, 2, 3, 0, 0, 0,
            1, -1,
            1, 0,
            1, 5,
            1, -1,
            13, 9, 0, 0, 0, 1, 2, 3, 0, 0, 0, 0, 0, 0,
            5 + 16, 0x2027, 0x3027, 0x4027, 0x9067, 0x030201 << 16,
            0, 1, 1, 1, 2, 1, 3, 1, 4, 1, 5, 1, 9, 1, 200, 65535,
        ])

    def test_what_is_handed_in_stays_and_nothing_is_kept(self):
        calls = long_line()
        before = list(calls)
        first = answers(calls)
        self.assertEqual(calls, before)
        self.assertEqual(answers(calls), first)
        self.assertEqual(calls, before)
        self.assertEqual(answers([11, 0, 0, 0, 2, 0, 0x1000 + 40]), [0, 2, 0, 0])

    def test_an_answer_is_not_kept_either(self):
        calls = long_line()
        first = answers(calls)
        kept = list(first)
        first.clear()
        self.assertEqual(answers(calls), kept)

    def test_whole_numbers_alone_are_answered(self):
        told = answers(long_line())
        self.assertIs(type(told), list)
        self.assertEqual({type(number) for number in told}, {int})

    def test_most_calls(self):
        calls = [new()] * 400
        told = run({}, {}, calls)
        self.assertEqual(told[:400], [[k] for k in range(256)] + [[-2]] * 144)
        self.assertEqual(len(told), 401)

    def test_a_number_that_is_no_call(self):
        with self.assertRaises(ValueError):
            answers([11, 0, 0, 12, 0, 0])


class LayAndTell(unittest.TestCase):
    def test_words_and_counts(self):
        told = run({0: 1, 8: TOP - 1, MEMORY_SIZE - 8: 0x0102030405060708}, {}, [], [8, 0, MEMORY_SIZE - 8, 16])
        self.assertEqual(told, [[TOP - 1, 1, 0x0102030405060708, 0]])

    def test_places_may_stand_twice(self):
        self.assertEqual(run({24: 5}, {}, [], [24, 32, 24, 24]), [[5, 0, 5, 5]])

    def test_frames_that_are_not_free_by_rising_numbers(self):
        told = run({}, {255: 65535, 0: 2, 17: 0, 9: 1}, [])
        self.assertEqual(told, [[0, 2, 9, 1, 255, 65535]])

    def test_places_come_before_frames(self):
        self.assertEqual(run({8: 3}, {4: 6}, [], [8]), [[3, 4, 6]])

    def test_bytes_of_a_word_from_the_lowest(self):
        memory, _ = way((0, 0, 0, 0), 0 | TO_TABLE)
        memory[16] = 0x8877665544332211
        told = run(memory, {}, [read((0x1000, 0, 0), 16, 8)])
        self.assertEqual(told[0], [8, 0, 0, 0, 0x11, 0x22, 0x33, 0x44, 0x55, 0x66, 0x77, 0x88])

    def test_most_pairs_and_places(self):
        memory = {k * 256: k + 1 for k in range(4096)}
        places = [k * 256 for k in range(4095, 3095, -1)]
        told = run(memory, {k: 65535 - k for k in range(256)}, [], places)
        uses = [number for k in range(256) for number in (k, 65535 - k)]
        self.assertEqual(told, [[k + 1 for k in range(4095, 3095, -1)] + uses])

    def test_told_numbers_of_a_row_count_numbers_not_pairs(self):
        self.assertEqual(lay({8: 1, 16: 2}, {3: 4})[:2], [11, 4])
        self.assertEqual(answers([*lay({8: 1, 16: 2}, {3: 4}), *tell([16])]), [0, 3, 2, 3, 4])


if __name__ == "__main__":
    unittest.main()
