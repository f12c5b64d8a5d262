"""The procedures that tell of things: 0, 3 and 7, 1, 4, 5, 16 and 17."""

from filesgiven.callers import GO_THROUGH, READ, may
from filesgiven.files import MOST_BYTES
from filesgiven.refusals import MAY_NOT, NOT_THERE, WELL, WRONG
from filesgiven.things import DOT, DOT_DOT, POINTER, handle_and_thing, what_it_is
from filesgiven.words import text_bytes, word_bytes, words_bytes

MOST_LISTED = 8192
AROUND_LIST = 12
FREE_BLOCK = 4096


def well(octets):
    return word_bytes(WELL) + octets


def do_nothing(files, asked):
    return []


def tell_thing(files, asked):
    return well(what_it_is(asked.taken["handle"]))


def look_name_up(files, asked):
    folder = asked.taken["folder"]
    if not may(asked.caller, folder, GO_THROUGH):
        return word_bytes(MAY_NOT)
    thing = files.look_up(folder, asked.taken["name"])
    if thing is None:
        return word_bytes(NOT_THERE)
    return well(handle_and_thing(thing))


def tell_path(files, asked):
    thing = asked.taken["handle"]
    if thing.kind != POINTER:
        return word_bytes(WRONG)
    return well(text_bytes(thing.path))


def names_in(folder):
    """Each name with its number and the mark that is told: . and .. stand before the entries."""
    rows = [(DOT, folder.number, 1), (DOT_DOT, folder.above, 2)]
    for name, entry in folder.entries.items():
        rows.append((name, entry[0], entry[1] + 2))
    return rows


def row_bytes(row):
    return words_bytes([1, row[1]]) + text_bytes(row[0]) + word_bytes(row[2])


def list_names(files, asked):
    folder = asked.taken["folder"]
    if not may(asked.caller, folder, READ):
        return word_bytes(MAY_NOT)
    room = min(asked.taken["count"], MOST_LISTED) - AROUND_LIST
    listed = []
    none_more = 1
    for row in names_in(folder):
        if row[2] <= asked.taken["mark"]:
            continue
        octets = row_bytes(row)
        if len(listed) + len(octets) > room:
            none_more = 0
            break
        listed.extend(octets)
    return well(listed + words_bytes([0, none_more]))


def tell_room(files, asked):
    blocks = (MOST_BYTES - files.byte_count) // FREE_BLOCK
    return well(words_bytes([8192, 4096, 1024, blocks, blocks]))
