"""Packets that come: what is wrong with them, and the procedure that answers them."""

from filesgiven.asked import Asked, fields_refusal, take_fields, with_things
from filesgiven.callers import MOST_TEXT, read_caller
from filesgiven.changing import change_settings, read_file, write_file
from filesgiven.files import Files
from filesgiven.looking import do_nothing, list_names, look_name_up, tell_path, tell_room, tell_thing
from filesgiven.naming import (
    add_name, make_file, make_folder, make_pointer, move_name, remove_folder, remove_name,
)
from filesgiven.refusals import WELL
from filesgiven.words import Reader, word_bytes, words_bytes

LEAST_BYTES = 24
PROGRAM = 100003
VERSION = 2
KEPT_ANSWERS = 16
AGAIN = (2, 8, 9, 10, 11, 12, 13, 14, 15)

PROCEDURES = (
    do_nothing, tell_thing, change_settings, do_nothing, look_name_up, tell_path, read_file, do_nothing, write_file,
    make_file, remove_name, move_name, add_name, make_pointer, make_folder, remove_folder, list_names, tell_room,
)


def run_procedure(files, procedure, asked):
    refusal = fields_refusal(files, asked.taken)
    if refusal != WELL:
        return word_bytes(refusal)
    found = with_things(files, asked.taken)
    return PROCEDURES[procedure](files, Asked(asked.caller, asked.now, found))


def head_answer(words):
    """The words behind the number where the program, its version or the procedure is another, else None."""
    if words[3] != PROGRAM:
        return [1, 0, 0, 0, 1]
    if words[4] != VERSION:
        return [1, 0, 0, 0, 2, 2, 2]
    if words[5] >= len(PROCEDURES):
        return [1, 0, 0, 0, 3]
    return None


class House:
    """One house of files, and the answers that are given again."""

    def __init__(self, now):
        self.files = Files(now)
        self.kept = []

    def answer(self, now, octets):
        """The answering packet's bytes; none if there is no answer."""
        if len(octets) < LEAST_BYTES:
            return []
        reader = Reader(octets)
        words = reader.take_words(6)
        if words[1] != 0:
            return []
        if words[2] != 2:
            return words_bytes([words[0], 1, 1, 0, 2, 2])
        caller = read_caller(reader)
        if caller is None:
            return words_bytes([words[0], 1, 1, 1, 1])
        wrong = head_answer(words)
        if wrong is not None:
            return words_bytes([words[0]] + wrong)
        reader.take_word()
        reader.take_text(MOST_TEXT)
        taken = take_fields(reader, words[5])
        if not reader.at_end():
            return words_bytes([words[0], 1, 0, 0, 0, 4])
        result = self.run_or_repeat(octets, words[5], Asked(caller, now, taken))
        return words_bytes([words[0], 1, 0, 0, 0, 0]) + result

    def run_or_repeat(self, octets, procedure, asked):
        if procedure not in AGAIN:
            return run_procedure(self.files, procedure, asked)
        for row in self.kept:
            if row[0] == octets:
                return row[1]
        result = run_procedure(self.files, procedure, asked)
        self.kept.append((octets, result))
        if len(self.kept) > KEPT_ANSWERS:
            self.kept.pop(0)
        return result
