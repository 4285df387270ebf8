"""Promise 1: what the processor's flags and keys allow and deny, and the code of what is denied."""

import itertools
import unittest

from tests.helper import (
    BIG, EXECUTE, KEYS, NO_USER_CODE, NO_USER_DATA, NX, NX_KNOWN, PROTECT, READ, THERE, TO_TABLE, TOP, USER,
    USER_DATA_NOW, USERS, WRITABLE, WRITE, address, look, run, way,
)

NUMBERS = (1, 2, 3, 4)
FOUND = None


def code_of(flags, kind, last, rights=0, level=1, bits=TO_TABLE):
    """The code of the fault, or FOUND; and it is seen to that there are marks only where it is found."""
    memory, places = way(NUMBERS, last, level, bits=bits)
    told = run(memory, {}, [look((0x1000, flags, rights), address(NUMBERS), kind)], places)
    if told[0][0] == 0:
        return FOUND
    assert told[0][0] == 1 and told[0][2] == address(NUMBERS), told
    assert told[1] == [memory[place] for place in places], told
    return told[0][1]


class Rights(unittest.TestCase):
    def check(self, cases):
        for case in cases:
            with self.subTest(case=case):
                self.assertEqual(code_of(*case[:-1]), case[-1])


class ForUser(Rights):
    def test_only_the_users_pages(self):
        self.check((
            (USER, READ, THERE | USERS, FOUND), (USER, READ, THERE, 5), (USER, READ, THERE | WRITABLE, 5),
            (USER, WRITE, THERE | WRITABLE, 7), (USER, WRITE, THERE, 7),
            (USER, EXECUTE, THERE | USERS, FOUND), (USER, EXECUTE, THERE, 5), (USER | NX_KNOWN, EXECUTE, THERE, 21),
        ))

    def test_written_if_it_may_be(self):
        for protect in (0, PROTECT):
            self.check((
                (USER | protect, WRITE, THERE | USERS | WRITABLE, FOUND), (USER | protect, WRITE, THERE | USERS, 7),
            ))

    def test_executed_unless_it_is_not_to_be(self):
        self.check((
            (USER | NX_KNOWN, EXECUTE, TO_TABLE, FOUND), (USER | NX_KNOWN, EXECUTE, TO_TABLE | NX, 21),
            (USER | NX_KNOWN, READ, TO_TABLE | NX, FOUND), (USER | NX_KNOWN, WRITE, TO_TABLE | NX, FOUND),
        ))

    def test_the_kernels_flags_deny_the_user_nothing(self):
        flags = USER | NO_USER_CODE | NO_USER_DATA
        self.check(((flags, kind, TO_TABLE, FOUND) for kind in (READ, WRITE, EXECUTE)))


class ForKernel(Rights):
    def test_read(self):
        self.check((
            (0, READ, THERE, FOUND), (0, READ, THERE | USERS, FOUND), (PROTECT, READ, THERE, FOUND),
            (NO_USER_DATA, READ, THERE, FOUND), (NO_USER_DATA, READ, THERE | USERS, 1),
            (NO_USER_DATA | USER_DATA_NOW, READ, THERE | USERS, FOUND), (USER_DATA_NOW, READ, THERE | USERS, FOUND),
            (NO_USER_CODE, READ, THERE | USERS, FOUND), (NX_KNOWN, READ, THERE | NX, FOUND),
        ))

    def test_written(self):
        self.check((
            (0, WRITE, THERE, FOUND), (0, WRITE, THERE | USERS, FOUND), (PROTECT, WRITE, THERE, 3),
            (PROTECT, WRITE, THERE | USERS, 3), (PROTECT, WRITE, THERE | WRITABLE, FOUND),
            (PROTECT, WRITE, TO_TABLE, FOUND), (NO_USER_DATA, WRITE, THERE, FOUND),
            (NO_USER_DATA, WRITE, TO_TABLE, 3), (NO_USER_DATA | USER_DATA_NOW, WRITE, TO_TABLE, FOUND),
            (NO_USER_DATA | USER_DATA_NOW | PROTECT, WRITE, THERE | USERS, 3),
            (NO_USER_CODE, WRITE, TO_TABLE, FOUND), (NX_KNOWN, WRITE, TO_TABLE | NX, FOUND),
        ))

    def test_executed(self):
        self.check((
            (0, EXECUTE, THERE, FOUND), (0, EXECUTE, TO_TABLE, FOUND), (NX_KNOWN, EXECUTE, THERE, FOUND),
            (NX_KNOWN, EXECUTE, THERE | NX, 17), (NX_KNOWN, EXECUTE, TO_TABLE | NX, 17),
            (NO_USER_CODE, EXECUTE, THERE, FOUND), (NO_USER_CODE, EXECUTE, THERE | USERS, 17),
            (NO_USER_CODE | USER_DATA_NOW, EXECUTE, THERE | USERS, 17), (NO_USER_DATA, EXECUTE, TO_TABLE, FOUND),
            (NO_USER_CODE | NX_KNOWN, EXECUTE, THERE | NX, 17), (PROTECT, EXECUTE, THERE, FOUND),
        ))


class OnTheWay(Rights):
    def test_all_entries_must_say_that_it_may_be_written_and_is_the_users(self):
        for level, big in ((1, 0), (2, BIG), (3, BIG)):
            last = TO_TABLE | big
            self.check((
                (USER, READ, last, 0, level, TO_TABLE - USERS, 5), (USER, WRITE, last, 0, level, TO_TABLE - WRITABLE, 7),
                (USER, READ, last, 0, level, TO_TABLE - WRITABLE, FOUND), (USER, WRITE, last, 0, level, FOUND),
                (PROTECT, WRITE, last, 0, level, TO_TABLE - WRITABLE, 3),
                (NO_USER_DATA, READ, last, 0, level, TO_TABLE - USERS, FOUND), (NO_USER_DATA, READ, last, 0, level, 1),
                (NO_USER_CODE, EXECUTE, last, 0, level, TO_TABLE - USERS, FOUND),
                (NO_USER_CODE, EXECUTE, last, 0, level, 17),
                (KEYS, READ, last, 1, level, TO_TABLE - USERS, FOUND), (KEYS, READ, last, 1, level, 33),
            ))

    def test_one_entry_is_enough_to_deny(self):
        for k, bit in itertools.product(range(4), (WRITABLE, USERS, NX)):
            with self.subTest(level=4 - k, bit=bit):
                memory, places = way(NUMBERS, 0x9000 | TO_TABLE)
                memory[places[k]] ^= bit
                calls = [look((0x1000, USER | NX_KNOWN, 0), address(NUMBERS), kind) for kind in (READ, WRITE, EXECUTE)]
                codes = [answer[1] if answer[0] == 1 else FOUND for answer in run(memory, {}, calls)[:3]]
                expected = {WRITABLE: [FOUND, 7, FOUND], USERS: [5, 7, 21], NX: [FOUND, FOUND, 21]}[bit]
                self.assertEqual(codes, expected)


class Keys(Rights):
    def test_each_key_has_its_own_two_bits(self):
        for key, other in itertools.product(range(16), range(16)):
            last = TO_TABLE | key << 59
            hit = key == other
            self.check((
                (KEYS, READ, last, 1 << 2 * other, 33 if hit else FOUND),
                (KEYS, WRITE, last, 1 << 2 * other, 35 if hit else FOUND),
                (KEYS | USER, WRITE, last, 2 << 2 * other, 39 if hit else FOUND),
                (KEYS | USER, READ, last, 2 << 2 * other, FOUND),
            ))

    def test_writing_is_denied_to_the_user_or_with_write_protection(self):
        self.check((
            (KEYS, WRITE, TO_TABLE, 2, FOUND), (KEYS | PROTECT, WRITE, TO_TABLE, 2, 35),
            (KEYS | USER, WRITE, TO_TABLE, 2, 39), (KEYS | USER | PROTECT, WRITE, TO_TABLE, 2, 39),
            (KEYS | PROTECT, READ, TO_TABLE, 2, FOUND), (KEYS | USER, READ, TO_TABLE, 2, FOUND),
        ))

    def test_reading_and_writing_are_denied_to_all(self):
        self.check((
            (KEYS, READ, TO_TABLE, 1, 33), (KEYS, WRITE, TO_TABLE, 1, 35), (KEYS | PROTECT, READ, TO_TABLE, 1, 33),
            (KEYS | USER, READ, TO_TABLE, 1, 37), (KEYS | USER, WRITE, TO_TABLE, 1, 39),
            (KEYS | USER, WRITE, TO_TABLE, 3, 39),
        ))

    def test_executing_is_never_denied_by_a_key(self):
        self.check(((KEYS | user, EXECUTE, TO_TABLE, TOP - 1, FOUND) for user in (0, USER)))

    def test_keys_are_not_asked_unless_they_are_known_and_the_page_is_the_users(self):
        self.check((
            (127 - KEYS - NO_USER_DATA, READ, TO_TABLE, TOP - 1, FOUND), (KEYS, READ, THERE | WRITABLE, TOP - 1, FOUND),
            (KEYS, WRITE, THERE | WRITABLE, TOP - 1, FOUND), (KEYS | USER, READ, THERE, TOP - 1, 5),
        ))

    def test_rights_above_key_15_mean_nothing(self):
        self.check(((KEYS | USER, WRITE, TO_TABLE | 15 << 59, TOP - (1 << 32), FOUND),))

    def test_the_key_is_the_last_entrys(self):
        for level, big in ((1, 0), (2, BIG), (3, BIG)):
            self.check((
                (KEYS, READ, TO_TABLE | big | 3 << 59, 1 << 6, level, TO_TABLE | 5 << 59, 33),
                (KEYS, READ, TO_TABLE | big | 3 << 59, 1 << 10, level, TO_TABLE | 5 << 59, FOUND),
            ))

    def test_a_key_is_told_also_where_something_else_denies(self):
        self.check((
            (KEYS | USER, WRITE, THERE | USERS, 1, 39), (KEYS | USER, WRITE, THERE | USERS, 2, 39),
            (KEYS | NO_USER_DATA, READ, TO_TABLE, 1, 33), (KEYS | PROTECT, WRITE, THERE | USERS, 2, 35),
            (KEYS | NO_USER_DATA, WRITE, TO_TABLE, 2, 3),
        ))


def denied_code(flags, kind, last, rights):
    """The document's words on the last entry, put as a list of what denies."""
    user, protect, _, no_code, no_data, now, keys = [flags >> k & 1 == 1 for k in range(7)]
    writable, users, never = last & WRITABLE != 0, last & USERS != 0, last & NX != 0
    key = keys and users and kind != EXECUTE and (
        rights & 1 != 0 or kind == WRITE and rights & 2 != 0 and (user or protect))
    denials = (
        key,
        user and not users,
        user and kind == WRITE and not writable,
        kind == EXECUTE and never,
        not user and kind == EXECUTE and users and no_code,
        not user and kind != EXECUTE and users and no_data and not now,
        not user and kind == WRITE and not writable and protect,
    )
    if not any(denials):
        return FOUND
    return 1 + 2 * (kind == WRITE) + 4 * user + 16 * (kind == EXECUTE and flags & 12 != 0) + 32 * key


class AllFlags(unittest.TestCase):
    def test_every_mix(self):
        cases = []
        for flags, kind, bits, rights in itertools.product(range(128), range(3), range(8), range(4)):
            last = THERE | (bits & 3) << 1 | (NX if bits & 4 else 0)
            if bits & 4 == 0 or flags & NX_KNOWN:
                cases.append((flags, kind, last, rights))
        addr = address(NUMBERS)
        for last in sorted({case[2] for case in cases}):
            memory, _ = way(NUMBERS, 0x9000 | last)
            chosen = [case for case in cases if case[2] == last]
            for first in range(0, len(chosen), 400):
                some = chosen[first:first + 400]
                told = run(memory, {}, [look((0x1000, flags, rights), addr, kind) for flags, kind, _, rights in some])
                codes = [answer[1] if answer[0] == 1 else FOUND for answer in told[:-1]]
                self.assertEqual(codes, [denied_code(*case) for case in some])


if __name__ == "__main__":
    unittest.main()
