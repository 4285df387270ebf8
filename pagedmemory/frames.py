"""The machine's memory: its bytes, kept as words of eight, and how often each of its frames is used."""

MEMORY_SIZE = 1048576
FRAME_SIZE = 4096
FRAME_COUNT = 256
WORD_SIZE = 8

# What a call answers in place of its numbers when it does nothing.
REFUSED = -1
TOO_FEW_FRAMES = -2
UNFIT_PAGE = -3


class Memory:
    # Entries, lay and tell all go by eight bytes at a time, so words are what is kept; a byte is cut out of its word.
    def __init__(self):
        self.words = [0] * (MEMORY_SIZE // WORD_SIZE)
        self.counts = [0] * FRAME_COUNT

    def word_at(self, place):
        return self.words[place // WORD_SIZE]

    def put_word(self, place, word):
        self.words[place // WORD_SIZE] = word

    def octet_at(self, place):
        return (self.word_at(place) >> octet_shift(place)) & 255

    def put_octet(self, place, octet):
        changed_bits = self.octet_at(place) ^ octet
        self.put_word(place, self.word_at(place) ^ (changed_bits << octet_shift(place)))

    def octets_from(self, place, how_many):
        return [self.octet_at(k) for k in range(place, place + how_many)]

    def free_frame_count(self):
        return self.counts.count(0)

    # Only to be called when a frame is free: so a call can be refused before anything has changed.
    def take_frame(self):
        frame = self.counts.index(0)
        self.counts[frame] = 1
        for place in range(frame * FRAME_SIZE, (frame + 1) * FRAME_SIZE, WORD_SIZE):
            self.put_word(place, 0)
        return frame


def octet_shift(place):
    return 8 * (place % WORD_SIZE)
