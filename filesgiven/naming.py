"""The procedures that make names and take them away: 9 to 15."""

from filesgiven.asked import is_told, new_mode
from filesgiven.callers import WRITE, may_name, may_use_bytes
from filesgiven.looking import well
from filesgiven.refusals import (
    IS_FOLDER, IS_THERE, MAY_NOT, NO_FOLDER, NO_ROOM, NOT_EMPTY, NOT_THEIRS, NOT_THERE, WELL, WRONG,
)
from filesgiven.things import DOT, DOT_DOT, FILE, FOLDER, POINTER, handle_and_thing, is_folder, mark_written
from filesgiven.words import word_bytes

POINTER_MODE = 0o777


def make_named(files, asked, kind, mode):
    """A new thing under the name that is asked for."""
    caller = asked.caller
    thing = files.make_thing(kind, mode, caller.user, caller.group, asked.now)
    files.put_entry(asked.taken["folder"], asked.taken["name"], thing, asked.now)
    return thing


def has_room(files, folder):
    return files.has_thing_room() and files.has_entry_room(folder, 0, 0)


def make_file(files, asked):
    thing = files.look_up(asked.taken["folder"], asked.taken["name"])
    if thing is None:
        return make_new_file(files, asked)
    return take_old_file(files, asked, thing)


def old_file_refusal(files, asked, thing):
    wanted = asked.taken["wanted"]
    if thing.kind != FILE:
        return IS_THERE
    if not may_use_bytes(asked.caller, thing, WRITE):
        return MAY_NOT
    if is_told(wanted.size):
        return files.size_refusal(len(thing.octets), wanted.size)
    return WELL


def take_old_file(files, asked, thing):
    refusal = old_file_refusal(files, asked, thing)
    if refusal != WELL:
        return word_bytes(refusal)
    size = asked.taken["wanted"].size
    if is_told(size):
        files.resize(thing, size)
        mark_written(thing, asked.now)
    return well(handle_and_thing(thing))


def make_new_file(files, asked):
    folder = asked.taken["folder"]
    wanted = asked.taken["wanted"]
    size = wanted.size if is_told(wanted.size) else 0
    if not may_name(asked.caller, folder):
        return word_bytes(MAY_NOT)
    if not has_room(files, folder):
        return word_bytes(NO_ROOM)
    refusal = files.size_refusal(0, size)
    if refusal != WELL:
        return word_bytes(refusal)
    thing = make_named(files, asked, FILE, new_mode(wanted))
    files.resize(thing, size)
    return well(handle_and_thing(thing))


def remove_name(files, asked):
    folder = asked.taken["folder"]
    name = asked.taken["name"]
    if not may_name(asked.caller, folder):
        return word_bytes(MAY_NOT)
    thing = files.look_up(folder, name)
    if thing is None:
        return word_bytes(NOT_THERE)
    if is_folder(thing):
        return word_bytes(IS_FOLDER)
    files.remove_entry(folder, name, asked.now)
    return well([])


def is_dots(name):
    return name in (DOT, DOT_DOT)


def start_refusal(files, asked, thing):
    """What is wrong with a move before the second place is looked at."""
    second = asked.taken["second folder"]
    if not may_name(asked.caller, asked.taken["folder"]) or not may_name(asked.caller, second):
        return MAY_NOT
    if thing is None:
        return NOT_THERE
    if is_dots(asked.taken["name"]) or is_dots(asked.taken["second name"]):
        return WRONG
    if is_folder(thing) and files.is_within(second, thing):
        return WRONG
    return WELL


def replace_refusal(thing, there):
    if is_folder(there) and not is_folder(thing):
        return IS_FOLDER
    if is_folder(thing) and not is_folder(there):
        return NO_FOLDER
    if len(there.entries) > 0:
        return NOT_EMPTY
    return WELL


def has_move_room(files, asked, there):
    """What goes out of the second folder, the moved entry itself too, makes room there."""
    second = asked.taken["second folder"]
    replaced = 0 if there is None else 1
    moved_here = 1 if second.number == asked.taken["folder"].number else 0
    return files.has_entry_room(second, replaced + moved_here, replaced + 1)


def move_name(files, asked):
    folder = asked.taken["folder"]
    second = asked.taken["second folder"]
    thing = files.look_up(folder, asked.taken["name"])
    refusal = start_refusal(files, asked, thing)
    if refusal != WELL:
        return word_bytes(refusal)
    there = files.look_up(second, asked.taken["second name"])
    if there is not None:
        if there.number == thing.number:
            return well([])
        refusal = replace_refusal(thing, there)
        if refusal != WELL:
            return word_bytes(refusal)
    if not has_move_room(files, asked, there):
        return word_bytes(NO_ROOM)
    if there is not None:
        files.remove_entry(second, asked.taken["second name"], asked.now)
    files.drop_entry(folder, asked.taken["name"], asked.now)
    files.put_entry(second, asked.taken["second name"], thing, asked.now)
    return well([])


def add_name(files, asked):
    thing = asked.taken["handle"]
    folder = asked.taken["folder"]
    name = asked.taken["name"]
    if is_folder(thing):
        return word_bytes(NOT_THEIRS)
    if not may_name(asked.caller, folder):
        return word_bytes(MAY_NOT)
    if files.look_up(folder, name) is not None:
        return word_bytes(IS_THERE)
    if not files.has_entry_room(folder, 0, 0):
        return word_bytes(NO_ROOM)
    files.put_entry(folder, name, thing, asked.now)
    return well([])


def new_refusal(files, asked):
    """What is wrong with making a pointer or a folder."""
    folder = asked.taken["folder"]
    if not may_name(asked.caller, folder):
        return MAY_NOT
    if files.look_up(folder, asked.taken["name"]) is not None:
        return IS_THERE
    if not has_room(files, folder):
        return NO_ROOM
    return WELL


def make_pointer(files, asked):
    refusal = new_refusal(files, asked)
    if refusal != WELL:
        return word_bytes(refusal)
    thing = make_named(files, asked, POINTER, POINTER_MODE)
    thing.path = asked.taken["path"]
    return well([])


def make_folder(files, asked):
    refusal = new_refusal(files, asked)
    if refusal != WELL:
        return word_bytes(refusal)
    thing = make_named(files, asked, FOLDER, new_mode(asked.taken["wanted"]))
    return well(handle_and_thing(thing))


def folder_refusal(files, asked):
    folder = asked.taken["folder"]
    name = asked.taken["name"]
    if not may_name(asked.caller, folder):
        return MAY_NOT
    if name == DOT:
        return WRONG
    if name == DOT_DOT:
        return NOT_EMPTY
    thing = files.look_up(folder, name)
    if thing is None:
        return NOT_THERE
    if not is_folder(thing):
        return NO_FOLDER
    if len(thing.entries) > 0:
        return NOT_EMPTY
    return WELL


def remove_folder(files, asked):
    refusal = folder_refusal(files, asked)
    if refusal != WELL:
        return word_bytes(refusal)
    files.remove_entry(asked.taken["folder"], asked.taken["name"], asked.now)
    return well([])
