"""Addresses, and the bits of a table's entries."""

from pagedmemory.frames import FRAME_SIZE, WORD_SIZE, WORDS_IN_FRAME

THERE = 1
WRITABLE = 2
USERS = 4
USED = 32
WRITTEN = 64
BIG = 128
COPIED_WHEN_WRITTEN = 512
NOT_EXECUTED = 0x8000000000000000
BEGINNING = 0x000FFFFFFFFFF000

LEVELS = (4, 3, 2, 1)


# Bits 47 to 63 are alike: all 0 or all 1.
def is_none(addr):
    return addr >> 47 not in (0, 0x1FFFF)


def is_of_page(addr):
    return addr % FRAME_SIZE == 0 and not is_none(addr)


# How many bytes one entry of this level stands for: of a page, if it leads to one.
def span_of_level(level):
    return FRAME_SIZE << (9 * (level - 1))


def entry_place(table, level, addr):
    entry_number = (addr // span_of_level(level)) % WORDS_IN_FRAME
    return table + entry_number * WORD_SIZE


def is_there(entry):
    return entry & THERE != 0


def key_of(entry):
    return (entry >> 59) & 15


def frame_led_to(entry):
    return (entry & BEGINNING) // FRAME_SIZE


def leading_to(frame, entry):
    return entry & ~BEGINNING | frame * FRAME_SIZE


# To be copied when it's written, in place of being written.
def kept_from_writing(entry):
    return entry & ~WRITABLE | COPIED_WHEN_WRITTEN


def let_be_written(entry):
    return entry & ~COPIED_WHEN_WRITTEN | WRITABLE
