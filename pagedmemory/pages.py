"""The kernel: single frames, and single pages of the trees of programs."""

from pagedmemory.entries import BEGINNING, COPIED_WHEN_WRITTEN, LEVELS, NOT_EXECUTED, THERE, USERS, WRITABLE
from pagedmemory.entries import entry_place, frame_led_to, is_none, is_of_page, is_there, leading_to, let_be_written
from pagedmemory.frames import DONE, FRAME_COUNT, FRAME_SIZE, MOST_USES, REFUSED, TOO_FEW_FRAMES, UNFIT_PAGE

MOST_FLAGS = 7
TO_BE_WRITTEN = 1
FOR_THE_USER = 2
NOT_TO_BE_EXECUTED = 4

# What touch answers when the page has become another one.
MOVED = 1


def new(memory):
    if memory.free_frame_count() == 0:
        return TOO_FEW_FRAMES
    return memory.take_frame()


def give(memory, root, addr, flags):
    if not is_of_page(addr) or flags > MOST_FLAGS:
        return REFUSED
    places = places_on_way(memory, root, addr)
    if is_there(memory.word_at(places[-1])):
        return UNFIT_PAGE
    if memory.free_frame_count() < missing_table_count(places) + 1:
        return TOO_FEW_FRAMES
    place = build_tables(memory, places, addr)
    frame = memory.take_frame()
    memory.put_word(place, page_entry(frame, flags))
    return frame


def share(memory, root, addr, frame, flags):
    if not is_of_page(addr) or flags > MOST_FLAGS or not can_be_shared(memory, frame):
        return REFUSED
    places = places_on_way(memory, root, addr)
    if is_there(memory.word_at(places[-1])):
        return UNFIT_PAGE
    if memory.free_frame_count() < missing_table_count(places):
        return TOO_FEW_FRAMES
    place = build_tables(memory, places, addr)
    memory.use_once_more(frame)
    memory.put_word(place, page_entry(frame, flags))
    return DONE


def take_back(memory, root, addr):
    if not is_of_page(addr):
        return REFUSED
    places = places_on_way(memory, root, addr)
    entry = memory.word_at(places[-1])
    if not is_there(entry):
        return UNFIT_PAGE
    memory.put_word(places[-1], 0)
    memory.use_once_less(frame_led_to(entry))
    free_empty_tables(memory, places)
    return DONE


def touch(memory, root, addr):
    if is_none(addr):
        return REFUSED
    place = places_on_way(memory, root, addr)[-1]
    entry = memory.word_at(place)
    if not is_there(entry) or entry & COPIED_WHEN_WRITTEN == 0:
        return UNFIT_PAGE
    page = frame_led_to(entry)
    if memory.counts[page] == 1:
        memory.put_word(place, let_be_written(entry))
        return DONE
    if memory.free_frame_count() == 0:
        return TOO_FEW_FRAMES
    own_page = memory.take_frame()
    memory.copy_words(page, own_page)
    memory.use_once_less(page)
    memory.put_word(place, let_be_written(leading_to(own_page, entry)))
    return MOVED


def can_be_shared(memory, frame):
    return frame < FRAME_COUNT and 0 < memory.counts[frame] < MOST_USES


# Where the entries for addr stand, from the root on, up to that of level 1 or to the first that isn't there.
def places_on_way(memory, root, addr):
    places = []
    table = root * FRAME_SIZE
    for level in LEVELS:
        place = entry_place(table, level, addr)
        places.append(place)
        entry = memory.word_at(place)
        if not is_there(entry):
            break
        table = entry & BEGINNING
    return places


def missing_table_count(places):
    return len(LEVELS) - len(places)


# Takes the tables that are missing behind the last of these places, and tells where the entry of level 1 stands.
def build_tables(memory, places, addr):
    place = places[-1]
    for level in LEVELS[len(places):]:
        table = memory.take_frame() * FRAME_SIZE
        memory.put_word(place, table | THERE | WRITABLE | USERS)
        place = entry_place(table, level, addr)
    return place


# The places are those of all four levels; the root's table, where the first of them stands, is never freed.
def free_empty_tables(memory, places):
    for k in range(len(places) - 1, 0, -1):
        table = places[k] // FRAME_SIZE
        if memory.filled_places(table) != []:
            return
        memory.set_free(table)
        memory.put_word(places[k - 1], 0)


def page_entry(frame, flags):
    entry = frame * FRAME_SIZE | THERE
    if flags & TO_BE_WRITTEN != 0:
        entry = entry | WRITABLE
    if flags & FOR_THE_USER != 0:
        entry = entry | USERS
    if flags & NOT_TO_BE_EXECUTED != 0:
        entry = entry | NOT_EXECUTED
    return entry
