"""The procedures on what one thing holds: 2, 6 and 8."""

from filesgiven.asked import MODE_BITS, is_told
from filesgiven.callers import READ, WRITE, may_use_bytes
from filesgiven.files import MOST_BYTES_IN_FILE
from filesgiven.looking import well
from filesgiven.refusals import IS_FOLDER, MAY_NOT, NOT_THEIRS, TOO_LARGE, WELL, WRONG
from filesgiven.things import FOLDER, POINTER, mark_written, what_it_is
from filesgiven.words import text_bytes, word_bytes

MOST_READ = 8192


def bytes_refusal(caller, thing, wish):
    if thing.kind == FOLDER:
        return IS_FOLDER
    if thing.kind == POINTER:
        return WRONG
    if not may_use_bytes(caller, thing, wish):
        return MAY_NOT
    return WELL


def owner_refusal(caller, thing, wanted):
    if caller.is_first():
        return WELL
    if is_told(wanted.user) or is_told(wanted.group):
        return NOT_THEIRS
    if is_told(wanted.mode) or is_told(wanted.read_at) or is_told(wanted.written_at):
        return WELL if caller.user == thing.user else NOT_THEIRS
    return WELL


def settings_refusal(files, caller, thing, wanted):
    refusal = owner_refusal(caller, thing, wanted)
    if refusal != WELL or not is_told(wanted.size):
        return refusal
    refusal = bytes_refusal(caller, thing, WRITE)
    if refusal != WELL:
        return refusal
    return files.size_refusal(len(thing.octets), wanted.size)


def change_settings(files, asked):
    thing = asked.taken["handle"]
    wanted = asked.taken["wanted"]
    refusal = settings_refusal(files, asked.caller, thing, wanted)
    if refusal != WELL:
        return word_bytes(refusal)
    if is_told(wanted.mode):
        thing.mode = wanted.mode & MODE_BITS
    if is_told(wanted.user):
        thing.user = wanted.user
    if is_told(wanted.group):
        thing.group = wanted.group
    if is_told(wanted.size):
        files.resize(thing, wanted.size)
        thing.written_at = asked.now
    # A written time that is told goes before the one that the size brought.
    if is_told(wanted.written_at):
        thing.written_at = wanted.written_at
    if is_told(wanted.read_at):
        thing.read_at = wanted.read_at
    thing.changed_at = asked.now
    return well(what_it_is(thing))


def read_file(files, asked):
    thing = asked.taken["handle"]
    refusal = bytes_refusal(asked.caller, thing, READ)
    if refusal != WELL:
        return word_bytes(refusal)
    start = asked.taken["start"]
    end = start + min(asked.taken["count"], MOST_READ)
    thing.read_at = asked.now
    return well(what_it_is(thing) + text_bytes(thing.octets[start:end]))


def write_refusal(files, asked):
    thing = asked.taken["handle"]
    refusal = bytes_refusal(asked.caller, thing, WRITE)
    if refusal != WELL:
        return refusal
    old_size = len(thing.octets)
    how_many = len(asked.taken["octets"])
    end = asked.taken["start"] + how_many
    if end > MOST_BYTES_IN_FILE:
        return TOO_LARGE
    if how_many == 0:
        return WELL
    return files.size_refusal(old_size, max(old_size, end))


def write_file(files, asked):
    refusal = write_refusal(files, asked)
    if refusal != WELL:
        return word_bytes(refusal)
    thing = asked.taken["handle"]
    octets = asked.taken["octets"]
    # Without bytes, a start behind the end would still bring zeros.
    if len(octets) > 0:
        files.write_bytes(thing, asked.taken["start"], octets)
    mark_written(thing, asked.now)
    return well(what_it_is(thing))
