"""Who calls, and what they may do."""

from filesgiven.things import FILE
from filesgiven.words import Reader

NOBODY = 65534
MOST_TEXT = 400
MOST_NAME = 255
MOST_GROUPS = 16

READ = 4
WRITE = 2
GO_THROUGH = 1


class Caller:
    def __init__(self, user, group, more_groups):
        self.user = user
        self.group = group
        self.more_groups = more_groups

    def is_first(self):
        return self.user == 0

    def has_group(self, group):
        return group == self.group or group in self.more_groups


def read_caller(reader):
    """Who calls, or None if that isn't there as told."""
    kind = reader.take_word()
    text = reader.take_text(MOST_TEXT)
    if not reader.whole:
        return None
    if kind == 0:
        return Caller(NOBODY, NOBODY, [])
    if kind == 1:
        return read_named(text)
    return None


def read_named(text):
    reader = Reader(text)
    reader.take_word()
    reader.take_text(MOST_NAME)
    user = reader.take_word()
    group = reader.take_word()
    how_many = reader.take_word()
    if how_many > MOST_GROUPS:
        return None
    more_groups = reader.take_words(how_many)
    if not reader.at_end():
        return None
    return Caller(user, group, more_groups)


def may(caller, thing, wish):
    """Whether all bits of the wish are granted."""
    if caller.is_first():
        return True
    if caller.user == thing.user:
        bits = thing.mode >> 6
    elif caller.has_group(thing.group):
        bits = thing.mode >> 3
    else:
        bits = thing.mode
    return (bits & wish) == wish


def may_use_bytes(caller, thing, wish):
    if thing.kind == FILE and caller.user == thing.user:
        return True
    return may(caller, thing, wish)


def may_name(caller, folder):
    """Whether they may make names in the folder and take them away."""
    return may(caller, folder, WRITE + GO_THROUGH)
