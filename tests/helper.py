"""Lines of calls for the tests, and their answers call by call."""

from pagedmemory.machine import answers

USER = 1
PROTECT = 2
NX_KNOWN = 4
NO_USER_CODE = 8
NO_USER_DATA = 16
USER_DATA_NOW = 32
KEYS = 64

THERE = 1
WRITABLE = 2
USERS = 4
USED = 32
WRITTEN = 64
BIG = 128
COPIED = 1 << 9
NX = 1 << 63
TO_TABLE = THERE | WRITABLE | USERS

READ, WRITE, EXECUTE = 0, 1, 2

MEMORY_SIZE = 1048576
SMALL, MIDDLE, LARGE = 1 << 12, 1 << 21, 1 << 30
TOP = 1 << 64


def tell(places=()):
    return [0, len(places), *places]


def look(cpu, addr, kind):
    return [1, *cpu, addr, kind]


def read(cpu, addr, n):
    return [2, *cpu, addr, n]


def write(cpu, addr, octets, n=None):
    return [3, *cpu, addr, len(octets) if n is None else n, len(octets), *octets]


def new():
    return [4]


def give(root, addr, flags):
    return [5, root, addr, flags]


def share(root, addr, frame, flags):
    return [6, root, addr, frame, flags]


def back(root, addr):
    return [7, root, addr]


def copy(root):
    return [8, root]


def touch(root, addr):
    return [9, root, addr]


def drop(root):
    return [10, root]


def lay(memory, counts):
    pairs = [number for pair in memory.items() for number in pair]
    uses = [number for pair in counts.items() for number in pair]
    return [11, len(pairs), *pairs, len(uses), *uses]


def line(memory, counts, calls, places=()):
    rows = [lay(memory, counts), *calls, tell(places)]
    return [number for row in rows for number in row]


def split_answers(told):
    answered = []
    position = 0
    while position < len(told):
        behind = position + 1 + told[position]
        answered.append(told[position + 1:behind])
        position = behind
    return answered


def run(memory, counts, calls, places=()):
    """What each call answers, without lay, and with tell as the last."""
    return split_answers(answers(line(memory, counts, calls, places)))[1:]


def address(numbers, offset=0):
    """The address by its entries' numbers of levels 4 to 1, with bits 48 to 63 like bit 47."""
    low = offset
    for number, shift in zip(numbers, (39, 30, 21, 12)):
        low += number << shift
    return low if low < 1 << 47 else low + TOP - (1 << 48)


def way(numbers, last, big_level=1, tables=(1, 2, 3, 4), bits=TO_TABLE):
    """The memory's words that lead by these numbers to the last entry, and the places of these words."""
    entries = []
    for k in range(4 - big_level):
        entries.append((tables[k] * 4096 + numbers[k] * 8, tables[k + 1] * 4096 | bits))
    k = 4 - big_level
    entries.append((tables[k] * 4096 + numbers[k] * 8, last))
    return dict(entries), [place for place, _ in entries]


def at(frame, number=0):
    """Where a frame's entry of this number stands."""
    return frame * 4096 + number * 8


def frame_places(frame):
    return list(range(frame * 4096, frame * 4096 + 4096, 8))


def uses(counts):
    """Frames and counts as tell answers them."""
    return [number for frame in sorted(counts) if counts[frame] for number in (frame, counts[frame])]


def all_but(free):
    return {frame: 3 for frame in range(256) if frame not in free}


def frames_in_question(memory, counts):
    """The frames that are laid or used, and the ten that would be taken first."""
    free = [frame for frame in range(256) if counts.get(frame, 0) == 0]
    return sorted({place // 4096 for place in memory} | set(counts) | set(free[:10]))


def words_behind(memory, counts, calls, frames=None):
    """The words that aren't 0 in these frames when the calls are done, by their places."""
    if frames is None:
        frames = frames_in_question(memory, counts)
    places = [place for frame in frames for place in frame_places(frame)]
    found = {}
    for first in range(0, len(places), 1000):
        some = places[first:first + 1000]
        found.update(zip(some, run(memory, counts, calls, some)[-1]))
    return {place: word for place, word in found.items() if word != 0}


def check_unchanged(test, memory, counts, calls, answers_expected):
    """The calls answer so, and leave all words and counts as they were laid."""
    told = run(memory, counts, calls)
    test.assertEqual(told, [*[[number] for number in answers_expected], uses(counts)])
    test.assertEqual(words_behind(memory, counts, calls), memory)
