"""Makes packets for the tests and takes their answers apart."""

from filesgiven.house import answers

LEAVE = 0xFFFFFFFF
FILE, FOLDER, POINTER = 1, 2, 5
KIND_BITS = {FILE: 0o100000, FOLDER: 0o040000, POINTER: 0o120000}
AGAIN = (2, 8, 9, 10, 11, 12, 13, 14, 15)


def words(*numbers):
    octets = []
    for number in numbers:
        octets += list(number.to_bytes(4, "big"))
    return octets


def text(value, fill=0):
    octets = list(value.encode() if isinstance(value, str) else value)
    return words(len(octets)) + octets + [fill] * (-len(octets) % 4)


def handle(number, age=1):
    return words(number, age, 0, 0, 0, 0, 0, 0)


def wanted(mode=LEAVE, user=LEAVE, group=LEAVE, size=LEAVE, read=LEAVE, written=LEAVE):
    return words(mode, user, group, size, read, 77, written, 88)


def who(user, group=None, more=()):
    group = user if group is None else group
    return words(1) + text(words(5) + text("host") + words(user, group, len(more), *more))


NOBODY = words(0, 0)
NONE = words(0, 0)
ROOT = who(0)
TOP = handle(1)


def packet(procedure, *parts, caller=ROOT, number=9, other=NONE, head=(0, 2, 100003, 2)):
    return words(number, *head, procedure) + caller + other + sum(parts, [])


def to_words(octets):
    assert len(octets) % 4 == 0
    return [int.from_bytes(bytes(octets[k:k + 4]), "big") for k in range(0, len(octets), 4)]


def is_thing(kind, number, mode=0, links=1, user=0, group=0, size=0, times=(200, 200, 200)):
    """The 17 words of what a thing is."""
    return [kind, KIND_BITS[kind] + mode, links, user, group, size, 4096, 0, -(-size // 512), 1, number,
            times[0], 0, times[1], 0, times[2], 0]


def split_answers(told):
    """The answers one by one, each a list."""
    rows = []
    place = 0
    while place < len(told):
        end = place + 1 + told[place]
        rows.append(told[place + 1:end])
        place = end
    assert place == len(told)
    return rows


class Line:
    """A line of calls that grows; each call is answered as the last of the whole line."""

    def __init__(self, now=100):
        self.calls = [0, now]
        self.number = 1000

    def add(self, octets, now=200):
        self.calls += [1, now, len(octets)] + octets

    def answer(self):
        row = split_answers(answers(self.calls))[-1]
        assert row[0] == len(row) - 1
        return row[1:]

    def send(self, octets, now=200):
        self.add(octets, now)
        return self.answer()

    def add_call(self, procedure, *parts, caller=ROOT, now=200):
        self.number += 1
        self.add(packet(procedure, *parts, caller=caller, number=self.number), now)

    def result(self):
        """The words behind a good head."""
        told = to_words(self.answer())
        assert told[:6] == [self.number, 1, 0, 0, 0, 0], told
        return told[6:]

    def call(self, procedure, *parts, caller=ROOT, now=200):
        self.add_call(procedure, *parts, caller=caller, now=now)
        return self.result()

    def look(self, number, age=1):
        """What the thing is, without the first word; None once its handle is none."""
        told = self.call(1, handle(number, age))
        return None if told == [70] else told[1:]

    def make_file(self, name, folder=TOP, caller=ROOT, now=200, **settings):
        return self.call(9, folder, text(name), wanted(**settings), caller=caller, now=now)

    def make_folder(self, name, folder=TOP, caller=ROOT, now=200, **settings):
        return self.call(14, folder, text(name), wanted(**settings), caller=caller, now=now)

    def make_pointer(self, name, path="path", folder=TOP, caller=ROOT, now=200):
        return self.call(13, folder, text(name), text(path), wanted(), caller=caller, now=now)

    def write(self, number, start, octets, caller=ROOT, now=200, age=1):
        parts = (handle(number, age), words(7, start, 7), text(octets))
        return self.call(8, *parts, caller=caller, now=now)

    def read(self, number, start=0, count=8192, caller=ROOT, now=200, age=1):
        """The first word, or the bytes that were read."""
        self.add_call(6, handle(number, age), words(start, count, 7), caller=caller, now=now)
        octets = self.answer()[24:]
        if len(octets) == 4:
            return to_words(octets)[0]
        size = to_words(octets[72:76])[0]
        assert len(octets) == 76 + size + -size % 4
        return octets[76:76 + size]

    def change(self, number, caller=ROOT, now=200, age=1, **settings):
        return self.call(2, handle(number, age), wanted(**settings), caller=caller, now=now)

    def names(self, folder=TOP, mark=0, count=8192, caller=ROOT):
        """The rows (number, name, mark) and the last word; or the refusal alone."""
        self.add_call(16, folder, words(mark, count), caller=caller)
        octets = self.answer()[24:]
        if len(octets) == 4:
            return to_words(octets)[0]
        assert octets[:4] == [0, 0, 0, 0]
        place, rows = 4, []
        while to_words(octets[place:place + 4]) == [1]:
            number, size = to_words(octets[place + 4:place + 12])
            start = place + 12
            place = start + size + -size % 4 + 4
            mark = to_words(octets[place - 4:place])[0]
            rows.append((number, bytes(octets[start:start + size]).decode(), mark))
        assert octets[place:place + 4] == [0, 0, 0, 0] and len(octets) == place + 8
        return rows, to_words(octets[place + 4:])[0]
