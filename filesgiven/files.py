"""All things of one house, within their limits."""

from filesgiven.refusals import NO_ROOM, TOO_LARGE, WELL
from filesgiven.things import DOT, DOT_DOT, FOLDER, Thing, is_folder, mark_written

MOST_THINGS = 512
MOST_BYTES = 4194304
MOST_BYTES_IN_FILE = 65536
MOST_ENTRIES = 4096
MOST_ENTRIES_IN_FOLDER = 256
LAST_MARK = 4294967000

TOP = 1
TOP_MODE = 0o755


class Files:
    def __init__(self, now):
        self.things = {}
        self.ages = {}
        self.byte_count = 0
        self.entry_count = 0
        self.make_thing(FOLDER, TOP_MODE, 0, 0, now)

    def make_thing(self, kind, mode, user, group, now):
        """A new thing that has no name yet."""
        number = self.free_number()
        age = self.ages.get(number, 0) + 1
        thing = Thing(kind, number, age, mode, user, group, now)
        self.ages[number] = age
        self.things[number] = thing
        return thing

    def free_number(self):
        number = TOP
        while number in self.things:
            number += 1
        return number

    def has_thing_room(self):
        return len(self.things) < MOST_THINGS

    def thing_of(self, handle):
        """The thing that the handle's eight words stand for, or None."""
        thing = self.things.get(handle[0])
        if thing is None or thing.age != handle[1] or any(handle[2:]):
            return None
        return thing

    def forget(self, thing):
        self.byte_count -= len(thing.octets)
        self.things.pop(thing.number)

    def look_up(self, folder, name):
        """The thing that has this name in the folder, or None."""
        if name == DOT:
            return folder
        if name == DOT_DOT:
            return self.things[folder.above]
        entry = folder.entries.get(name)
        if entry is None:
            return None
        return self.things[entry[0]]

    def has_entry_room(self, folder, freed_here, freed_in_all):
        """Whether one more entry fits, once those that are freed are gone."""
        return (
            len(folder.entries) - freed_here < MOST_ENTRIES_IN_FOLDER
            and self.entry_count - freed_in_all < MOST_ENTRIES
            and folder.last_mark < LAST_MARK
        )

    def put_entry(self, folder, name, thing, now):
        folder.last_mark += 1
        folder.entries[name] = (thing.number, folder.last_mark)
        self.entry_count += 1
        if is_folder(thing):
            thing.above = folder.number
            folder.links += 1
        else:
            thing.links += 1
        thing.changed_at = now
        mark_written(folder, now)

    def drop_entry(self, folder, name, now):
        """The thing stays, for it may be put elsewhere."""
        entry = folder.entries.pop(name)
        thing = self.things[entry[0]]
        self.entry_count -= 1
        if is_folder(thing):
            folder.links -= 1
        else:
            thing.links -= 1
        thing.changed_at = now
        mark_written(folder, now)
        return thing

    def remove_entry(self, folder, name, now):
        thing = self.drop_entry(folder, name, now)
        if is_folder(thing) or thing.links == 0:
            self.forget(thing)

    def size_refusal(self, old_size, new_size):
        if new_size > MOST_BYTES_IN_FILE:
            return TOO_LARGE
        if self.byte_count - old_size + new_size > MOST_BYTES:
            return NO_ROOM
        return WELL

    def resize(self, thing, size):
        old_size = len(thing.octets)
        self.byte_count += size - old_size
        if size < old_size:
            thing.octets = thing.octets[:size]
        else:
            thing.octets = thing.octets + [0] * (size - old_size)

    def write_bytes(self, thing, start, octets):
        end = start + len(octets)
        if end > len(thing.octets):
            self.resize(thing, end)
        thing.octets = thing.octets[:start] + octets + thing.octets[end:]

    def is_within(self, folder, other):
        """Whether the folder is the other one or stands below it."""
        while folder.number != other.number and folder.number != TOP:
            folder = self.things[folder.above]
        return folder.number == other.number
