"""All the promises at once: lines that mix all calls on several trees."""

import random
import struct
import unittest

from pagedmemory.machine import answers
from tests.helper import (
    COPIED, KEYS, MEMORY_SIZE, NO_USER_CODE, NO_USER_DATA, NX, NX_KNOWN, PROTECT, THERE, TO_TABLE, TOP, USED, USER,
    USER_DATA_NOW, WRITABLE, WRITTEN,
    address, at, back, copy, drop, give, line, look, new, read, run, share, split_answers, touch, uses, way,
    words_behind, write,
)

BEGIN = (1 << 52) - (1 << 12)


class Refused(Exception):
    pass


class Model:
    """The document's words once more, on bytes: what is refused halfway is undone, and nothing is asked ahead."""

    def __init__(self, memory, counts):
        self.octets = bytearray(MEMORY_SIZE)
        self.counts = [counts.get(frame, 0) for frame in range(256)]
        for place, word in memory.items():
            self.put(place, word)

    def word(self, place):
        return int.from_bytes(self.octets[place:place + 8], "little")

    def put(self, place, word):
        self.octets[place:place + 8] = word.to_bytes(8, "little")

    def entries(self, table):
        return struct.unpack("<512Q", self.octets[table * 4096:table * 4096 + 4096])

    def answer(self, call):
        octets, counts = bytes(self.octets), list(self.counts)
        names = ("tell", "look", "read", "write", "new", "give", "share", "back", "copy", "touch", "drop")
        try:
            told = getattr(self, names[call[0]])(*call[1:])
        except Refused as refusal:
            self.octets, self.counts = bytearray(octets), counts
            return [refusal.args[0]]
        return told if isinstance(told, list) else [told]

    def find(self, cpu, addr, kind):
        """Where it is and the page's size, or (why not, its number)."""
        if len({addr >> bit & 1 for bit in range(47, 64)}) == 2:
            return None, (3, 0)
        user, protect, nx_known, no_code, no_data, now, keys = (cpu[1] >> bit & 1 for bit in range(7))
        base = 2 * (kind == 1) + 4 * user + 16 * (kind == 2 and (nx_known or no_code))
        table, seen, shift = cpu[0] & BEGIN, [], 39
        while True:
            if table + 4096 > MEMORY_SIZE:
                return None, (2, table)
            place = table + (addr >> shift & 511) * 8
            entry = self.word(place)
            if not entry & 1:
                return None, (1, base)
            big = entry >> 7 & 1 and shift in (30, 21)
            reserved = (entry >> 40 & 4095 or entry >> 63 and not nx_known or shift == 39 and entry >> 7 & 1
                        or big and entry & (1 << shift) - (1 << 13))
            if reserved:
                return None, (1, base + 9)
            seen.append((place, entry))
            if big or shift == 12:
                break
            table, shift = entry & BEGIN, shift - 9
        may_write = all(entry & 2 for _, entry in seen)
        users = all(entry & 4 for _, entry in seen)
        never = any(entry >> 63 for _, entry in seen)
        right = cpu[2] >> 2 * (seen[-1][1] >> 59 & 15) & 3
        by_key = keys and users and kind != 2 and (right & 1 or kind == 1 and right & 2 and (user or protect))
        if user:
            denied = not users or kind == 1 and not may_write or kind == 2 and never
        elif kind == 2:
            denied = never or users and no_code
        else:
            denied = users and no_data and not now or kind == 1 and not may_write and protect
        if by_key or denied:
            return None, (1, base + 1 + (32 if by_key else 0))
        for place, _ in seen:
            self.octets[place] |= 32
        if kind == 1:
            self.octets[seen[-1][0]] |= 64
        size = 1 << shift
        return ((seen[-1][1] & BEGIN) // size * size + addr % size, size), None

    def look(self, cpu0, cpu1, cpu2, addr, kind):
        if kind not in (0, 1, 2):
            raise Refused(-1)
        found, why = self.find((cpu0, cpu1, cpu2), addr, kind)
        return [0, *found] if found else [*why, addr]

    def move(self, cpu, addr, n, kind, octets):
        if not 0 <= n <= 65536:
            raise Refused(-1)
        moved = []
        for k in range(n):
            found, why = self.find(cpu, (addr + k) % TOP, kind)
            if found and found[0] >= MEMORY_SIZE:
                found, why = None, (2, found[0])
            if not found:
                return [k, *why, (addr + k) % TOP], moved
            if kind:
                self.octets[found[0]] = octets[k]
            moved.append(self.octets[found[0]])
        return [n, 0, 0, 0], moved

    def read(self, cpu0, cpu1, cpu2, addr, n):
        told, moved = self.move((cpu0, cpu1, cpu2), addr, n, 0, [])
        return told + moved

    def write(self, cpu0, cpu1, cpu2, addr, n, how_many, *octets):
        return self.move((cpu0, cpu1, cpu2), addr, n, 1, octets)[0]

    def take(self):
        for frame in range(256):
            if self.counts[frame] == 0:
                self.counts[frame] = 1
                self.octets[frame * 4096:frame * 4096 + 4096] = bytes(4096)
                return frame
        raise Refused(-2)

    def use(self, frame, more):
        self.counts[frame] += more
        if self.counts[frame] > 65535:
            raise Refused(-2)

    def new(self):
        return self.take()

    def last_place(self, root, addr, build):
        """Where the entry of level 1 stands: tables that aren't there are taken, or None if they aren't to be."""
        table = root * 4096
        for shift in (39, 30, 21):
            place = table + (addr >> shift & 511) * 8
            if self.word(place) == 0:
                if not build:
                    return None
                self.put(place, self.take() * 4096 + 7)
            table = self.word(place) & BEGIN
        return table + (addr >> 12 & 511) * 8

    def page_entry(self, root, addr):
        place = self.last_place(root, addr, False)
        return self.word(place) if place is not None else 0

    def check_page(self, addr):
        if addr % 4096 or len({addr >> bit & 1 for bit in range(47, 64)}) == 2:
            raise Refused(-1)

    def enter(self, root, addr, flags, frame_taker):
        if self.page_entry(root, addr):
            raise Refused(-3)
        place = self.last_place(root, addr, True)
        frame = frame_taker()
        self.put(place, frame * 4096 + 1 + (flags & 3) * 2 + (flags >> 2 << 63))
        return frame

    def give(self, root, addr, flags):
        self.check_page(addr)
        if flags > 7:
            raise Refused(-1)
        return self.enter(root, addr, flags, self.take)

    def share(self, root, addr, frame, flags):
        self.check_page(addr)
        if flags > 7 or frame > 255 or self.counts[frame] in (0, 65535):
            raise Refused(-1)
        self.enter(root, addr, flags, lambda: frame)
        self.use(frame, 1)
        return 0

    def back(self, root, addr):
        self.check_page(addr)
        entry = self.page_entry(root, addr)
        if not entry:
            raise Refused(-3)
        self.put(self.last_place(root, addr, False), 0)
        self.use((entry & BEGIN) >> 12, -1)
        self.prune(root, 4)
        return 0

    def prune(self, table, level):
        """Whether the table is all 0 when those below that are all 0 have been freed."""
        for number, entry in enumerate(self.entries(table)) if level > 1 else ():
            below = (entry & BEGIN) >> 12
            if entry and self.prune(below, level - 1):
                self.counts[below] = 0
                self.put(at(table, number), 0)
        return not any(self.octets[table * 4096:table * 4096 + 4096])

    def copy(self, root, level=4):
        twin = self.take()
        for number, entry in enumerate(self.entries(root)):
            if entry and level > 1:
                below = self.copy((entry & BEGIN) >> 12, level - 1)
                self.put(at(twin, number), entry & ~BEGIN | below << 12)
            elif entry:
                self.use((entry & BEGIN) >> 12, 1)
                kept = entry - 2 | 512 if entry & 2 else entry
                self.put(at(root, number), kept)
                self.put(at(twin, number), kept)
        return twin

    def touch(self, root, addr):
        self.check_page(addr // 4096 * 4096)
        entry = self.page_entry(root, addr)
        if not entry >> 9 & 1:
            raise Refused(-3)
        page = (entry & BEGIN) >> 12
        place, own = self.last_place(root, addr, False), entry & ~512 & ~BEGIN | 2
        if self.counts[page] == 1:
            self.put(place, own | page << 12)
            return 0
        frame = self.take()
        self.octets[frame * 4096:frame * 4096 + 4096] = self.octets[page * 4096:page * 4096 + 4096]
        self.counts[page] -= 1
        self.put(place, own | frame << 12)
        return 1

    def drop(self, root, level=4):
        for number, entry in enumerate(self.entries(root)):
            below = (entry & BEGIN) >> 12
            if entry and level > 1:
                self.drop(below, level - 1)
            elif entry:
                self.counts[below] -= 1
        self.counts[root] = 0
        return 0

    def is_sound(self, root):
        if self.counts[root] != 1:
            return False
        tables, pages = [root], []
        layer = [root]
        for level in (4, 3, 2, 1):
            below = []
            for table in layer:
                entries = [entry for entry in self.entries(table) if entry]
                if not entries and table != root:
                    return False
                for entry in entries:
                    bits_are_right = entry & 7 == 7 and not entry >> 63 if level > 1 else entry & 1
                    if not bits_are_right or entry >> 40 & 4095 or entry & 128 or (entry & BEGIN) >> 12 > 255:
                        return False
                    below.append((entry & BEGIN) >> 12)
            if len(below) > 3000:
                return False
            layer = below
            if level > 1:
                tables += below
            else:
                pages = below
        if len(set(tables)) < len(tables) or set(tables) & set(pages) or any(self.counts[table] != 1 for table in tables):
            return False
        return all(self.counts[page] >= pages.count(page) for page in set(pages))


ADDRESSES = [address((a, b, c, d)) for a in (0, 511) for b in (0, 300) for c in (7,) for d in (0, 1, 511)]
FLAGS = [flags | NX_KNOWN for flags in (
    0, USER, PROTECT, USER | PROTECT, 127, KEYS | USER, NO_USER_DATA | PROTECT, NO_USER_DATA | USER_DATA_NOW,
    NO_USER_CODE,
)] + [0, USER]


class LineMaker:
    """Makes lines by a seed, and asks the model what each call answers."""

    def __init__(self, seed, free, size):
        self.chance = random.Random(seed)
        self.memory, self.counts = self.first_tree(free)
        self.model = Model(self.memory, self.counts)
        self.roots = [10]
        self.calls, self.told = [], []
        tries = 0
        while len(self.calls) < size and tries < 4 * size:
            tries += 1
            self.add(self.any_call())

    def first_tree(self, free):
        """The root 10 with three pages that have all sorts of bits, and this many frames free."""
        bits = TO_TABLE | USED | 3 << 59
        tables = (10, 11, 12, 13)
        memory = way((0, 0, 7, 0), 0x14000 | TO_TABLE | WRITTEN | 5 << 59, tables=tables, bits=bits)[0]
        memory |= {at(13, 1): 0x15000 | THERE | COPIED | 1 << 10, at(13, 511): 0x14000 | THERE | WRITABLE | NX | 1 << 55}
        memory |= {at(20, number): self.chance.randrange(TOP) for number in range(0, 512, 40)}
        counts = {10: 1, 11: 1, 12: 1, 13: 1, 20: 2, 21: self.chance.choice((1, 2, 65533, 65534)), 22: 65534}
        spare = [frame for frame in range(256) if frame not in counts]
        kept_free = self.chance.sample(spare, free)
        self.reached = {*counts, *kept_free}
        counts |= {frame: 1 for frame in spare if frame not in kept_free}
        return memory, counts

    def add(self, call):
        root = call[1] if call[0] >= 5 else None
        if root is not None and root not in self.sound:
            return
        told = self.model.answer(call)
        if call[0] == 6:
            self.reached.add(call[3])
        self.calls.append(call)
        self.told.append(told)
        if call[0] in (4, 8) and told[0] >= 0 and told[0] not in self.roots:
            self.roots.append(told[0])

    def any_root(self):
        """Mostly one with a page, and mostly one whose tree is sound."""
        roots = self.chance.sample(self.roots, len(self.roots))
        good = [root for root in roots if root in self.sound]
        fuller = [root for root in good if any(self.model.entries(root))]
        return self.chance.choice((fuller or roots)[:1] * 6 + (good or roots)[:1] * 2 + roots[:1])

    def any_address(self, root):
        there = [addr for addr in ADDRESSES if root in self.sound and self.model.page_entry(root, addr)]
        addr = self.chance.choice(there if there and self.chance.random() < 0.6 else ADDRESSES)
        if self.chance.random() < 0.03:
            addr = self.chance.choice((addr ^ 1 << 47, addr ^ 1 << 60, addr + 1, addr + 2048))
        return addr

    def any_frame(self, root):
        there = [self.model.page_entry(root, addr) for addr in ADDRESSES if root in self.sound]
        pages = [(entry & BEGIN) >> 12 for entry in there if entry]
        return self.chance.choice((*(pages or [20]) * 4, 20, 21, 22, self.chance.randrange(300), self.any_root()))

    def any_call(self):
        chance = self.chance
        self.sound = [root for root in self.roots if self.model.is_sound(root)]
        root = self.any_root()
        addr = self.any_address(root)
        flags = chance.choice((0, 1, 2, 3, 3, 3, 4, 7)) if chance.random() < 0.98 else 8
        inside = (addr + chance.choice((0, 5, 2000, 4090, 4095))) % TOP
        cpu = (root * 4096, chance.choice(FLAGS), chance.choice((0, 0, 0, 0, 1 << 10, 2 << 10, 3, TOP - 1)))
        octets = [chance.randrange(256) for _ in range(chance.choice((1, 3, 9)))]
        kind = chance.choices(range(1, 11), (4, 5, 8, 1, 10, 8, 6, 6, 14, 2))[0]
        return {
            1: look(cpu, inside, chance.choice((0, 1, 2, 2, 3))), 2: read(cpu, inside, chance.choice((0, 1, 20, -1))),
            3: write(cpu, inside, octets), 4: new(), 5: give(root, addr, flags),
            6: share(root, addr, self.any_frame(self.any_root()), flags),
            7: back(root, addr), 8: copy(root), 9: touch(root, inside), 10: drop(root),
        }[kind]


class ByTheModel(unittest.TestCase):
    def check(self, maker):
        told = run(maker.memory, maker.counts, maker.calls)
        self.assertEqual(told[:-1], maker.told)
        behind = dict(enumerate(maker.model.counts))
        self.assertEqual(told[-1], uses(behind))
        words = words_behind(maker.memory, maker.counts, maker.calls, sorted(maker.reached & set(range(256))))
        expected = dict(enumerate(struct.unpack("<131072Q", maker.model.octets)))
        self.assertEqual(words, {number * 8: word for number, word in expected.items() if word})

    def test_many_lines(self):
        answered = {}
        for seed in range(12):
            with self.subTest(seed=seed):
                maker = LineMaker(seed, (6, 12, 30, 80)[seed % 4], 250)
                self.check(maker)
                for call, told in zip(maker.calls, maker.told):
                    answered.setdefault(call[0], set()).add(min(told[0], 1))
        # So that these lines don't pass by what they are there for.
        for number, wanted in ((4, {-2, 1}), (5, {-1, -3, -2, 1}), (6, {-1, -3, -2, 0}), (7, {-1, -3, 0}),
                               (8, {-2, 1}), (9, {-1, -3, -2, 0, 1}), (10, {0})):
            self.assertLessEqual(wanted, answered[number], number)


class ByHand(unittest.TestCase):
    def test_two_generations(self):
        user = USER | PROTECT
        one, two, three = [(root * 4096, user, 0) for root in (0, 6, 11)]
        addr = 0x400000
        steps = [
            (new(), [0]),
            # Tables 1 to 3, page 4; then page 5; then page 4 again, for reading.
            (give(0, addr, 3), [4]),
            (give(0, addr + 0x1000, 3), [5]),
            (share(0, addr + 0x2000, 4, 2), [0]),
            (write(one, addr + 0xFFE, [1, 2, 3, 4]), [4, 0, 0, 0]),
            (read(one, addr + 0x2FFD, 4), [3, 1, 4, addr + 0x3000, 0, 1, 2]),
            # Tables 6 to 9; page 4 is used four times now, page 5 twice.
            (copy(0), [6]),
            (write(one, addr + 0xFFE, [9]), [0, 1, 7, addr + 0xFFE]),
            (touch(0, addr + 0xFFE), [1]),
            (touch(0, addr + 0xFFE), [-3]),
            (touch(0, addr + 0x2000), [-3]),
            (write(one, addr + 0xFFE, [9, 8, 7]), [2, 1, 7, addr + 0x1000]),
            (read(one, addr + 0xFFE, 4), [4, 0, 0, 0, 9, 8, 3, 4]),
            (read(two, addr + 0xFFE, 4), [4, 0, 0, 0, 1, 2, 3, 4]),
            (read(one, addr + 0x2FFE, 2), [2, 0, 0, 0, 1, 2]),
            # Tables 11 to 14; page 4 is used five times, page 5 three times, page 10 once.
            (copy(6), [11]),
            # The kernel without write protection writes into what is to be copied: all three trees see it.
            (write((0xB000, 0, 0), addr + 0x1000, [5]), [1, 0, 0, 0]),
            (read(one, addr + 0x1000, 2), [2, 0, 0, 0, 5, 4]),
            (read(two, addr + 0x1000, 2), [2, 0, 0, 0, 5, 4]),
            (drop(0), [0]),
            # Page 5 is used twice: a copy goes to frame 0, and the third tree has page 5 for itself.
            (touch(6, addr + 0x1ABC), [1]),
            (touch(11, addr + 0x1000), [0]),
            (write(two, addr + 0x1000, [6, 6]), [2, 0, 0, 0]),
            (write(three, addr + 0x1001, [7]), [1, 0, 0, 0]),
            (read(two, addr + 0x1000, 2), [2, 0, 0, 0, 6, 6]),
            (read(three, addr + 0x1000, 2), [2, 0, 0, 0, 5, 7]),
            # A page between the trees, by a new table of level 1.
            (share(11, 0x600000, 0, 1), [0]),
            (give(11, 0x600000, 1), [-3]),
            (read((0xB000, 0, 0), 0x600000, 2), [2, 0, 0, 0, 6, 6]),
            (back(11, addr + 0x2000), [0]),
            (back(11, addr + 0x2000), [-3]),
            (look(three, 0x600000, 0), [1, 5, 0x600000]),
        ]
        told = run({}, {}, [call for call, _ in steps], [at(9, 0), at(9, 1), at(9, 2), at(14, 0), at(13, 3), at(1, 0)])
        self.assertEqual(told[:-1], [answer for _, answer in steps])
        # What was marked when it was copied is marked in the copies, too.
        marks = USED | WRITTEN
        entries = [0x4005 | COPIED | marks, 0x0007 | marks, 0x4005 | USED, 0x4005 | COPIED | marks, 0x1007 | USED,
                   0x0003 | USED]
        behind = {0: 2, 1: 1, 4: 3, 5: 1, 6: 1, 7: 1, 8: 1, 9: 1, 11: 1, 12: 1, 13: 1, 14: 1}
        self.assertEqual(told[-1], entries + uses(behind))

    def test_refusals_between_other_calls(self):
        # Five frames: a root, three tables and a page; then there's none, till the pages are back.
        counts = {frame: 9 for frame in range(5, 256)}
        steps = [
            (new(), [0]), (give(0, 0, 3), [4]), (new(), [-2]), (copy(0), [-2]), (give(0, 4096, 3), [-2]),
            (share(0, 1 << 30, 4, 0), [-2]), (share(0, 4096, 4, 3), [0]), (share(0, 4096, 7, 3), [-3]),
            (back(0, 8192), [-3]), (back(0, 1 << 47), [-1]), (touch(0, 0), [-3]), (back(0, 0), [0]),
            (look((0, 0, 0), 4097, 1), [0, 0x4001, 4096]), (back(0, 4096), [0]), (copy(0), [1]),
            (give(1, TOP - 4096, 7), [-2]), (drop(0), [0]),
            # Frames 0, 2, 3 and 4 are free: just enough for three tables and a page.
            (give(1, TOP - 4096, 7), [4]), (new(), [-2]), (drop(1), [0]), (new(), [0]), (new(), [1]),
        ]
        told = run({}, counts, [call for call, _ in steps])
        self.assertEqual(told[:-1], [answer for _, answer in steps])
        self.assertEqual(told[-1], uses(counts | {0: 1, 1: 1}))

    def test_a_tree_written_by_address(self):
        # The second tree's last table is a page of the first one while it's written there, and its own once more then.
        entry = list((0x5001 | COPIED).to_bytes(8, "little"))
        steps = [
            (new(), [0]), (new(), [1]), (give(0, 0, 3), [5]), (give(1, 0, 3), [9]), (share(1, 8192, 5, 0), [0]),
            (share(0, 4096, 8, 1), [0]), (write((0, 0, 0), 4096 + 8, entry), [8, 0, 0, 0]), (back(0, 4096), [0]),
            # Page 5 is led to three times, and used as often once the first tree has shared it.
            (share(0, 8192, 5, 0), [0]), (touch(1, 4096), [1]), (copy(1), [11]), (drop(1), [0]), (back(11, 8192), [0]),
        ]
        told = run({}, {}, [call for call, _ in steps], [at(8, 1), at(14, 0), at(14, 1), at(14, 2)])
        self.assertEqual(told[:-1], [answer for _, answer in steps])
        counts = {frame: 1 for frame in (0, 2, 3, 4, 5, 9, 10, 11, 12, 13, 14)}
        entries = [0xA001 | COPIED, 0x9005 | COPIED, 0xA001 | COPIED, 0]
        self.assertEqual(told[-1], entries + uses(counts))


class WholeProgram(unittest.TestCase):
    def test_nothing_is_changed_or_kept(self):
        maker = LineMaker(99, 40, 200)
        calls = line(maker.memory, maker.counts, maker.calls, [at(13, 0), at(13, 1)])
        before = list(calls)
        first = answers(calls)
        self.assertEqual(calls, before)
        self.assertEqual(answers(calls), first)
        self.assertEqual(answers(tuple(calls)), first)
        self.assertEqual({type(number) for number in first}, {int})
        self.assertEqual(answers([11, 0, 0, 0, 1, at(13)]), [0, 1, 0])

    def test_answers_of_the_calls_on_trees_are_one_number_each(self):
        calls = [new(), give(0, 0, 1), share(0, 4096, 4, 0), copy(0), touch(5, 1), back(5, 4096), drop(0)]
        told = answers(line({}, {}, calls))
        self.assertEqual(told, [0, 1, 0, 1, 4, 1, 0, 1, 5, 1, 1, 1, 0, 1, 0, 10, 5, 1, 6, 1, 7, 1, 8, 1, 9, 1])
        self.assertEqual(split_answers(told)[4], [5])

    def test_most_calls_on_a_big_tree(self):
        memory, counts = {}, {0: 1, 255: 42}
        for k in range(42):
            tables = [0, 1 + 3 * k, 2 + 3 * k, 3 + 3 * k]
            memory |= way((k, k, k, k), 0xFF007, tables=tables)[0]
            counts |= {table: 1 for table in tables}
        told = run(memory, counts, [copy(0), drop(127)] * 200)
        self.assertEqual(told, [[127], [0]] * 200 + [uses(counts)])


if __name__ == "__main__":
    unittest.main()
