"""A line of calls on one machine, and its answers."""

from pagedmemory.frames import Memory
from pagedmemory.lookup import look
from pagedmemory.moving import read, write
from pagedmemory.pages import give, new, share, take_back, touch
from pagedmemory.trees import copy_tree, drop_tree

TELL = 0
LOOK = 1
READ = 2
WRITE = 3
NEW = 4
GIVE = 5
SHARE = 6
BACK = 7
COPY = 8
TOUCH = 9
DROP = 10
LAY = 11


class UnknownCall(ValueError):
    pass


# Goes through the list of calls from its first number to its last.
class Reader:
    def __init__(self, numbers):
        self.numbers = numbers
        self.position = 0

    def at_end(self):
        return self.position == len(self.numbers)

    def take_number(self):
        number = self.numbers[self.position]
        self.position += 1
        return number

    def take_numbers(self, how_many):
        taken = self.numbers[self.position:self.position + how_many]
        self.position += how_many
        return taken

    def take_row(self):
        return self.take_numbers(self.take_number())


def answers(calls):
    reader = Reader(calls)
    memory = Memory()
    told = []
    while not reader.at_end():
        answer = answer_call(memory, reader)
        told.append(len(answer))
        told.extend(answer)
    return told


def answer_call(memory, reader):
    number = reader.take_number()
    if number == LAY:
        return answer_lay(memory, reader)
    if number == TELL:
        return answer_tell(memory, reader)
    if number == LOOK:
        return answer_look(memory, reader)
    if number == READ:
        return answer_read(memory, reader)
    if number == WRITE:
        return answer_write(memory, reader)
    if number == NEW:
        return [new(memory)]
    if number == GIVE:
        return answer_give(memory, reader)
    if number == SHARE:
        return answer_share(memory, reader)
    if number == BACK:
        return answer_back(memory, reader)
    if number == COPY:
        return [copy_tree(memory, reader.take_number())]
    if number == TOUCH:
        return answer_touch(memory, reader)
    if number == DROP:
        return [drop_tree(memory, reader.take_number())]
    raise UnknownCall(f"no call has the number {number}")


def answer_lay(memory, reader):
    words = reader.take_row()
    counts = reader.take_row()
    for k in range(0, len(words), 2):
        memory.put_word(words[k], words[k + 1])
    for k in range(0, len(counts), 2):
        memory.counts[counts[k]] = counts[k + 1]
    return []


def answer_tell(memory, reader):
    told = [memory.word_at(place) for place in reader.take_row()]
    for frame, count in enumerate(memory.counts):
        if count != 0:
            told.extend([frame, count])
    return told


def answer_look(memory, reader):
    cpu = reader.take_numbers(3)
    addr = reader.take_number()
    kind = reader.take_number()
    return look(memory, cpu, addr, kind)


def answer_read(memory, reader):
    cpu = reader.take_numbers(3)
    addr = reader.take_number()
    how_many = reader.take_number()
    return read(memory, cpu, addr, how_many)


def answer_write(memory, reader):
    cpu = reader.take_numbers(3)
    addr = reader.take_number()
    how_many = reader.take_number()
    octets = reader.take_row()
    return write(memory, cpu, addr, how_many, octets)


def answer_give(memory, reader):
    root = reader.take_number()
    addr = reader.take_number()
    flags = reader.take_number()
    return [give(memory, root, addr, flags)]


def answer_share(memory, reader):
    root = reader.take_number()
    addr = reader.take_number()
    frame = reader.take_number()
    flags = reader.take_number()
    return [share(memory, root, addr, frame, flags)]


def answer_back(memory, reader):
    root = reader.take_number()
    addr = reader.take_number()
    return [take_back(memory, root, addr)]


def answer_touch(memory, reader):
    root = reader.take_number()
    addr = reader.take_number()
    return [touch(memory, root, addr)]
