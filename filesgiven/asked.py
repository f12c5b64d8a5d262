"""What the procedures take: how it stands in a packet, and what is wrong with its handles and names."""

from filesgiven.refusals import MAY_NOT, NAME_TOO_LONG, NONE_NOW, NO_FOLDER, NOT_THERE, WELL
from filesgiven.things import is_folder

LEAVES = 4294967295
MODE_BITS = 4095

MOST_NAME_TEXT = 1024
MOST_NAME = 255
MOST_PATH = 1024
MOST_WRITTEN = 8192
SLASH = 47


class Wanted:
    """What a thing is to be."""

    def __init__(self, words):
        self.mode = words[0]
        self.user = words[1]
        self.group = words[2]
        self.size = words[3]
        self.read_at = words[4]
        self.written_at = words[6]


class Asked:
    """A call's procedure values, with who calls and when."""

    def __init__(self, caller, now, taken):
        self.caller = caller
        self.now = now
        self.taken = taken


def is_told(word):
    return word != LEAVES


def new_mode(wanted):
    return wanted.mode & MODE_BITS if is_told(wanted.mode) else 0


def take_plain_word(reader):
    return reader.take_word()


def take_handle(reader):
    return reader.take_words(8)


def take_name(reader):
    return tuple(reader.take_text(MOST_NAME_TEXT))


def take_path(reader):
    path = reader.take_text(MOST_PATH)
    if len(path) == 0:
        reader.whole = False
    return path


def take_octets(reader):
    return reader.take_text(MOST_WRITTEN)


def take_wanted(reader):
    return Wanted(reader.take_words(8))


TAKERS = {
    "handle": take_handle,
    "folder": take_handle,
    "second folder": take_handle,
    "name": take_name,
    "second name": take_name,
    "path": take_path,
    "octets": take_octets,
    "wanted": take_wanted,
    "start": take_plain_word,
    "count": take_plain_word,
    "mark": take_plain_word,
    "unused": take_plain_word,
    "unused too": take_plain_word,
}

FIELDS = (
    (),
    ("handle",),
    ("handle", "wanted"),
    (),
    ("folder", "name"),
    ("handle",),
    ("handle", "start", "count", "unused"),
    (),
    ("handle", "unused", "start", "unused too", "octets"),
    ("folder", "name", "wanted"),
    ("folder", "name"),
    ("folder", "name", "second folder", "second name"),
    ("handle", "folder", "name"),
    ("folder", "name", "path", "wanted"),
    ("folder", "name", "wanted"),
    ("folder", "name"),
    ("folder", "mark", "count"),
    ("handle",),
)


def take_fields(reader, procedure):
    """What the procedure takes, by field; the reader knows whether it was whole."""
    taken = {}
    for field in FIELDS[procedure]:
        taken[field] = TAKERS[field](reader)
    return taken


def name_refusal(name):
    if len(name) > MOST_NAME:
        return NAME_TOO_LONG
    if len(name) == 0:
        return NOT_THERE
    if SLASH in name or 0 in name:
        return MAY_NOT
    return WELL


def field_refusal(files, field, value):
    if field in ("name", "second name"):
        return name_refusal(value)
    if field not in ("handle", "folder", "second folder"):
        return WELL
    thing = files.thing_of(value)
    if thing is None:
        return NONE_NOW
    if field != "handle" and not is_folder(thing):
        return NO_FOLDER
    return WELL


def fields_refusal(files, taken):
    """Handles and names are looked at in the order in which they came."""
    for field, value in taken.items():
        refusal = field_refusal(files, field, value)
        if refusal != WELL:
            return refusal
    return WELL


def with_things(files, taken):
    """The same fields, with things in the place of their handles."""
    found = dict(taken)
    for field in ("handle", "folder", "second folder"):
        if field in taken:
            found[field] = files.thing_of(taken[field])
    return found
