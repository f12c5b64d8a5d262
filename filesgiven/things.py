"""Files, folders and pointers, and how an answer tells of them."""

from filesgiven.words import words_bytes

FILE = 1
FOLDER = 2
POINTER = 5

KIND_BITS = {1: 32768, 2: 16384, 5: 40960}
FOLDER_SIZE = 512
BLOCK = 512

DOT = (46,)
DOT_DOT = (46, 46)


class Thing:
    """A file, a folder or a pointer; what the other kinds have stays empty in it.

    A folder's entries are kept by name, as (number, mark), and stand in the order of their marks,
    since a new mark is always the highest.
    """

    def __init__(self, kind, number, age, mode, user, group, now):
        self.kind = kind
        self.number = number
        self.age = age
        self.mode = mode
        self.links = 2 if kind == FOLDER else 0
        self.user = user
        self.group = group
        self.read_at = now
        self.written_at = now
        self.changed_at = now
        self.octets = []
        self.path = []
        self.entries = {}
        self.last_mark = 0
        self.above = number


def is_folder(thing):
    return thing.kind == FOLDER


def size_of(thing):
    if thing.kind == FOLDER:
        return FOLDER_SIZE
    if thing.kind == POINTER:
        return len(thing.path)
    return len(thing.octets)


def mark_written(thing, now):
    thing.written_at = now
    thing.changed_at = now


def what_it_is(thing):
    size = size_of(thing)
    blocks = (size + BLOCK - 1) // BLOCK
    return words_bytes([
        thing.kind, KIND_BITS[thing.kind] + thing.mode, thing.links, thing.user, thing.group,
        size, 4096, 0, blocks, 1, thing.number,
        thing.read_at, 0, thing.written_at, 0, thing.changed_at, 0,
    ])


def handle_bytes(thing):
    return words_bytes([thing.number, thing.age, 0, 0, 0, 0, 0, 0])


def handle_and_thing(thing):
    return handle_bytes(thing) + what_it_is(thing)
