"""Words of 4 bytes and texts, as packets hold them."""


def word_bytes(word):
    return [word >> 24 & 255, word >> 16 & 255, word >> 8 & 255, word & 255]


def words_bytes(words):
    octets = []
    for word in words:
        octets.extend(word_bytes(word))
    return octets


def text_bytes(text):
    octets = word_bytes(len(text))
    octets.extend(text)
    octets.extend([0] * filling(len(text)))
    return octets


def filling(size):
    """How many bytes bring a text up to a multiple of 4."""
    return (4 - size % 4) % 4


class Reader:
    """Takes one thing after another out of bytes.

    What is missing or too long makes whole False for good, so that who reads asks once, at the end.
    """

    def __init__(self, octets):
        self.octets = octets
        self.place = 0
        self.whole = True

    def take(self, size):
        end = self.place + size
        if not self.whole or end > len(self.octets):
            self.whole = False
            return []
        taken = self.octets[self.place:end]
        self.place = end
        return taken

    def take_word(self):
        word = 0
        for octet in self.take(4):
            word = word * 256 + octet
        return word

    def take_words(self, how_many):
        return [self.take_word() for turn in range(how_many)]

    def take_text(self, most):
        size = self.take_word()
        if size > most:
            self.whole = False
        text = self.take(size)
        self.take(filling(size))
        return text

    def at_end(self):
        return self.whole and self.place == len(self.octets)
