"""The kernel: frames and pages that it gives to the trees of programs."""

from pagedmemory.entries import BEGINNING, LEVELS, NOT_EXECUTED, THERE, USERS, WRITABLE
from pagedmemory.entries import entry_place, is_of_page, is_there
from pagedmemory.frames import FRAME_SIZE, REFUSED, TOO_FEW_FRAMES, UNFIT_PAGE

MOST_FLAGS = 7
TO_BE_WRITTEN = 1
FOR_THE_USER = 2
NOT_TO_BE_EXECUTED = 4


def new(memory):
    if memory.free_frame_count() == 0:
        return TOO_FEW_FRAMES
    return memory.take_frame()


def give(memory, root, addr, flags):
    if not is_of_page(addr) or flags > MOST_FLAGS:
        return REFUSED
    places = places_on_way(memory, root, addr)
    if is_there(memory.word_at(places[-1])):
        return UNFIT_PAGE
    missing_tables = len(LEVELS) - len(places)
    if memory.free_frame_count() < missing_tables + 1:
        return TOO_FEW_FRAMES
    place = build_tables(memory, places, addr)
    frame = memory.take_frame()
    memory.put_word(place, page_entry(frame, flags))
    return frame


# Where the entries for addr stand, from the root on, up to that of level 1 or to the first that isn't there.
def places_on_way(memory, root, addr):
    places = []
    table = root * FRAME_SIZE
    for level in LEVELS:
        place = entry_place(table, level, addr)
        places.append(place)
        entry = memory.word_at(place)
        if not is_there(entry):
            break
        table = entry & BEGINNING
    return places


# Takes the tables that are missing behind the last of these places, and tells where the entry of level 1 stands.
def build_tables(memory, places, addr):
    place = places[-1]
    for level in LEVELS[len(places):]:
        table = memory.take_frame() * FRAME_SIZE
        memory.put_word(place, table | THERE | WRITABLE | USERS)
        place = entry_place(table, level, addr)
    return place


def page_entry(frame, flags):
    entry = frame * FRAME_SIZE | THERE
    if flags & TO_BE_WRITTEN != 0:
        entry = entry | WRITABLE
    if flags & FOR_THE_USER != 0:
        entry = entry | USERS
    if flags & NOT_TO_BE_EXECUTED != 0:
        entry = entry | NOT_EXECUTED
    return entry
