"""Bytes read and written by address, each as if it were looked up by itself."""

from pagedmemory.frames import MEMORY_SIZE, REFUSED
from pagedmemory.lookup import BEYOND, FOUND, READING, WRITING, look_up

MOST_OCTETS = 65536
ADDRESS_COUNT = 0x10000000000000000


def read(memory, cpu, addr, how_many):
    if not is_granted(how_many):
        return [REFUSED]
    octets = []
    while len(octets) < how_many:
        at = address_behind(addr, len(octets))
        found = find_octet(memory, cpu, at, READING)
        if found[0] != FOUND:
            return [len(octets)] + found + octets
        # Reading changes nothing but marks, which are set by now and lead nowhere else: so the page's other bytes
        # would be found just as this one was.
        run = min(how_many - len(octets), readable_from(at, found[1], found[2]))
        octets.extend(memory.octets_from(found[1], run))
    return [len(octets), 0, 0, 0] + octets


def write(memory, cpu, addr, how_many, octets):
    if not is_granted(how_many):
        return [REFUSED]
    # Every byte is looked up anew, for the one before it may have changed a table.
    for k, octet in enumerate(octets):
        found = find_octet(memory, cpu, address_behind(addr, k), WRITING)
        if found[0] != FOUND:
            return [k] + found
        memory.put_octet(found[1], octet)
    return [how_many, 0, 0, 0]


def is_granted(how_many):
    return 0 <= how_many <= MOST_OCTETS


def address_behind(addr, distance):
    return (addr + distance) % ADDRESS_COUNT


# As look_up, but a place beyond the memory has no byte to be moved.
def find_octet(memory, cpu, addr, kind):
    found = look_up(memory, cpu, addr, kind)
    if found[0] == FOUND and found[1] >= MEMORY_SIZE:
        return [BEYOND, found[1], addr]
    return found


def readable_from(addr, place, size):
    return min(size - addr % size, MEMORY_SIZE - place)
