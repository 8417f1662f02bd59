"""The memory of one run."""

BYTES = 65536
WORDS = 16384


def packed(first_bytes):
    """The words of a whole memory whose first bytes are told; the other bytes are 0."""
    words = [0] * WORDS
    for place, value in enumerate(first_bytes):
        words[place >> 2] += value << byte_shift(place, 1)
    return words


def byte_shift(place, size):
    """How far to the left a number of size bytes at place stands in its word, the highest byte first."""
    return 8 * (4 - size - (place & 3))


def all_ones(size):
    """The highest number of size bytes."""
    return (1 << (8 * size)) - 1


def byte_changes(place, before, now):
    """Place and byte for each byte of the word at place that is another now."""
    changes = []
    for step in range(4):
        shift = byte_shift(step, 1)
        value = (now >> shift) & 255
        if value != (before >> shift) & 255:
            changes.append(place + step)
            changes.append(value)
    return changes


class Memory:
    """65536 bytes, kept as words: what is moved stands at a multiple of its size, so always within one word.

    Of each word that was stored to, it keeps what was there at first, so that the end of a run
    looks at no other words.
    """

    def __init__(self, first_bytes):
        self.words = packed(first_bytes)
        self.at_first = {}

    def load(self, place, size):
        """The number of 1, 2 or 4 bytes at place, without sign."""
        return (self.words[place >> 2] >> byte_shift(place, size)) & all_ones(size)

    def store(self, place, size, value):
        """The lowest 1, 2 or 4 bytes of value are put at place."""
        index = place >> 2
        before = self.words[index]
        if index not in self.at_first:
            self.at_first[index] = before
        ones = all_ones(size)
        shift = byte_shift(place, size)
        self.words[index] = (before & ~(ones << shift)) | ((value & ones) << shift)

    def changed(self):
        """Place and byte, in order, for each byte that is another than at first."""
        changes = []
        for index in sorted(self.at_first):
            changes.extend(byte_changes(4 * index, self.at_first[index], self.words[index]))
        return changes
