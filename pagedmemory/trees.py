"""The kernel: whole trees, copied and dropped."""

from pagedmemory.entries import LEVELS, WRITABLE, frame_led_to, kept_from_writing, leading_to
from pagedmemory.frames import DONE, FRAME_SIZE, MOST_USES, TOO_FEW_FRAMES


# The frames of a tree: its tables, the root among them, and its pages, each as often as an entry leads to it.
class Tree:
    def __init__(self, memory, root):
        self.tables = []
        frames = [root]
        for level in LEVELS:
            self.tables.extend(frames)
            frames = frames_below(memory, frames)
        self.pages = frames


# In a sound tree an entry that isn't 0 is there.
def frames_below(memory, tables):
    frames = []
    for table in tables:
        frames.extend([frame_led_to(memory.word_at(place)) for place in memory.filled_places(table)])
    return frames


def copy_tree(memory, root):
    # All that can refuse is asked ahead, so nothing has to be undone.
    if not can_be_copied(memory, Tree(memory, root)):
        return TOO_FEW_FRAMES
    return copy_table(memory, root, LEVELS[0])


def can_be_copied(memory, tree):
    uses = list(memory.counts)
    for page in tree.pages:
        uses[page] += 1
    return len(tree.tables) <= memory.free_frame_count() and max(uses) <= MOST_USES


# Calls itself for the tables below, so three calls deep at most: a table is copied whole before the next entry.
def copy_table(memory, table, level):
    twin = memory.take_frame()
    for place in memory.filled_places(table):
        if level == LEVELS[-1]:
            entry = share_page(memory, place)
        else:
            entry = memory.word_at(place)
            entry = leading_to(copy_table(memory, frame_led_to(entry), level - 1), entry)
        memory.put_word(twin * FRAME_SIZE + place % FRAME_SIZE, entry)
    return twin


# Readies the entry at this place to stand in two trees, and tells it.
def share_page(memory, place):
    entry = memory.word_at(place)
    memory.use_once_more(frame_led_to(entry))
    if entry & WRITABLE != 0:
        entry = kept_from_writing(entry)
        memory.put_word(place, entry)
    return entry


def drop_tree(memory, root):
    tree = Tree(memory, root)
    for table in tree.tables:
        memory.set_free(table)
    for page in tree.pages:
        memory.use_once_less(page)
    return DONE
