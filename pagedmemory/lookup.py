"""The processor: what an address leads to by the tables, and what it may be used for there."""

from pagedmemory.entries import BEGINNING, BIG, NOT_EXECUTED, USED, USERS, WRITABLE, WRITTEN
from pagedmemory.entries import LEVELS, entry_place, is_none, is_there, key_of, span_of_level
from pagedmemory.frames import MEMORY_SIZE, REFUSED

# What an address is used for.
READING = 0
WRITING = 1
EXECUTING = 2

# The processor's flags.
FOR_USER = 1
WRITE_PROTECTION = 2
NOT_EXECUTED_KNOWN = 4
KERNEL_EXECUTES_NO_USERS = 8
KERNEL_MOVES_NO_USERS = 16
KERNEL_MOVES_NOW = 32
KEYS_KNOWN = 64

# How looking up ends.
FOUND = 0
FAULT = 1
BEYOND = 2
NO_ADDRESS = 3

# What each cause of a fault adds to its code.
NOT_THERE = 0
DENIED = 1
RESERVED = 9
DENIED_BY_KEY = 33

RESERVED_ALWAYS = 0x000FFF0000000000
RESERVED_IF_BIG = {3: 0x3FFFE000, 2: 0x001FE000}


# The processor, and what it is about to do.
class Access:
    def __init__(self, cpu, kind):
        self.root_table = cpu[0] & BEGINNING
        self.flags = cpu[1]
        self.rights = cpu[2]
        self.kind = kind

    def has_any(self, flags):
        return self.flags & flags != 0


# The entries that one address has led through, from level 4 on, and where each of them stands.
class Way:
    def __init__(self):
        self.places = []
        self.entries = []

    def go_through(self, place, entry):
        self.places.append(place)
        self.entries.append(entry)

    def last_entry(self):
        return self.entries[-1]

    def last_level(self):
        return LEVELS[len(self.entries) - 1]

    def all_say(self, bit):
        return all([entry & bit != 0 for entry in self.entries])

    def any_says(self, bit):
        return any([entry & bit != 0 for entry in self.entries])


def look(memory, cpu, addr, kind):
    if kind not in (READING, WRITING, EXECUTING):
        return [REFUSED]
    return look_up(memory, cpu, addr, kind)


def look_up(memory, cpu, addr, kind):
    if is_none(addr):
        return [NO_ADDRESS, 0, addr]
    access = Access(cpu, kind)
    table = access.root_table
    way = Way()
    for level in LEVELS:
        if table >= MEMORY_SIZE:
            return [BEYOND, table, addr]
        place = entry_place(table, level, addr)
        entry = memory.word_at(place)
        if not is_there(entry):
            return [FAULT, fault_code(access, NOT_THERE), addr]
        if entry & reserved_bits(access, level, entry) != 0:
            return [FAULT, fault_code(access, RESERVED), addr]
        way.go_through(place, entry)
        # The level need not be asked: on level 4 this bit is reserved, and behind level 1 the way ends anyhow.
        if entry & BIG != 0:
            break
        table = entry & BEGINNING
    return end_of_way(memory, access, way, addr)


def reserved_bits(access, level, entry):
    bits = RESERVED_ALWAYS
    if not access.has_any(NOT_EXECUTED_KNOWN):
        bits = bits | NOT_EXECUTED
    if level == 4:
        bits = bits | BIG
    elif entry & BIG != 0:
        bits = bits | RESERVED_IF_BIG.get(level, 0)
    return bits


def end_of_way(memory, access, way, addr):
    # The key is asked first: its part of the code is told also where something else denies as well.
    if key_denies(access, way):
        return [FAULT, fault_code(access, DENIED_BY_KEY), addr]
    if not is_allowed(access, way):
        return [FAULT, fault_code(access, DENIED), addr]
    mark(memory, access, way)
    size = span_of_level(way.last_level())
    beginning = way.last_entry() & BEGINNING
    return [FOUND, beginning - beginning % size + addr % size, size]


def fault_code(access, cause):
    code = cause
    if access.kind == WRITING:
        code += 2
    if access.has_any(FOR_USER):
        code += 4
    if access.kind == EXECUTING and access.has_any(NOT_EXECUTED_KNOWN | KERNEL_EXECUTES_NO_USERS):
        code += 16
    return code


def key_denies(access, way):
    if not access.has_any(KEYS_KNOWN) or not way.all_say(USERS) or access.kind == EXECUTING:
        return False
    rights = access.rights >> (2 * key_of(way.last_entry()))
    if rights & 1 != 0:
        return True
    return access.kind == WRITING and rights & 2 != 0 and access.has_any(FOR_USER | WRITE_PROTECTION)


def is_allowed(access, way):
    if access.has_any(FOR_USER):
        return user_may(access, way)
    if access.kind == EXECUTING:
        return kernel_may_execute(access, way)
    return kernel_may_move(access, way)


def user_may(access, way):
    if not way.all_say(USERS):
        return False
    if access.kind == WRITING:
        return way.all_say(WRITABLE)
    return access.kind == READING or not way.any_says(NOT_EXECUTED)


def kernel_may_execute(access, way):
    if access.has_any(KERNEL_EXECUTES_NO_USERS) and way.all_say(USERS):
        return False
    return not way.any_says(NOT_EXECUTED)


def kernel_may_move(access, way):
    kept_off = access.has_any(KERNEL_MOVES_NO_USERS) and not access.has_any(KERNEL_MOVES_NOW)
    if kept_off and way.all_say(USERS):
        return False
    return access.kind == READING or way.all_say(WRITABLE) or not access.has_any(WRITE_PROTECTION)


# A mark is added to the word as it is now, for the same entry may stand on the way more than once.
def mark(memory, access, way):
    for place in way.places:
        memory.put_word(place, memory.word_at(place) | USED)
    if access.kind == WRITING:
        last_place = way.places[-1]
        memory.put_word(last_place, memory.word_at(last_place) | WRITTEN)
