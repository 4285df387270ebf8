"""The machine's memory: its bytes, kept as words of eight, and how often each of its frames is used."""

MEMORY_SIZE = 1048576
FRAME_SIZE = 4096
FRAME_COUNT = 256
WORD_SIZE = 8
WORDS_IN_FRAME = 512
MOST_USES = 65535

# What a call answers that has done what was asked, and has no number to tell.
DONE = 0

# What a call answers in place of its numbers when it does nothing.
REFUSED = -1
TOO_FEW_FRAMES = -2
UNFIT_PAGE = -3


class Memory:
    # Entries, lay and tell all go by eight bytes at a time, so words are what is kept; a byte is cut out of its word.
    # They are kept frame by frame, for a whole frame is what is emptied, copied and gone through; and a word that has
    # never been put is left out, for most of a table's entries are 0.
    def __init__(self):
        self.frames = [{} for frame in range(FRAME_COUNT)]
        self.counts = [0] * FRAME_COUNT

    def word_at(self, place):
        return self.frames[place // FRAME_SIZE].get(place % FRAME_SIZE // WORD_SIZE, 0)

    def put_word(self, place, word):
        words = self.frames[place // FRAME_SIZE]
        words[place % FRAME_SIZE // WORD_SIZE] = word

    def octet_at(self, place):
        return (self.word_at(place) >> octet_shift(place)) & 255

    def put_octet(self, place, octet):
        changed_bits = self.octet_at(place) ^ octet
        self.put_word(place, self.word_at(place) ^ (changed_bits << octet_shift(place)))

    def octets_from(self, place, how_many):
        return [self.octet_at(k) for k in range(place, place + how_many)]

    # Where the frame's words stand that aren't 0, by rising places.
    def filled_places(self, frame):
        first = frame * FRAME_SIZE
        return sorted([first + k * WORD_SIZE for k, word in self.frames[frame].items() if word != 0])

    def copy_words(self, source, target):
        self.frames[target] = dict(self.frames[source])

    def free_frame_count(self):
        return self.counts.count(0)

    # Only to be called when a frame is free: so a call can be refused before anything has changed.
    def take_frame(self):
        frame = self.counts.index(0)
        self.counts[frame] = 1
        self.frames[frame] = {}
        return frame

    def use_once_more(self, frame):
        self.counts[frame] += 1

    def use_once_less(self, frame):
        self.counts[frame] -= 1

    # Its bytes stay: what is taken is emptied only then.
    def set_free(self, frame):
        self.counts[frame] = 0


def octet_shift(place):
    return 8 * (place % WORD_SIZE)
