"""Long lines of calls, the same each time: the house stays sound, and the list is answered as packet by packet."""

import random
import unittest

from filesgiven.house import answers
from filesgiven.packets import House
from tests.line import LEAVE, NOBODY, ROOT, handle, packet, text, wanted, who, words

NAMES = ("a", "b", "c", "dd", "..", ".", "", "e/f", "n" * 256)


def any_part(dice, kind):
    if kind == "h":
        return handle(dice.choice((1, 1, 2, 3, 4, 5, 6, 7)), dice.choice((1, 1, 1, 2, 3)))
    if kind == "n":
        return text(dice.choice(NAMES[:4] if dice.random() < 0.8 else NAMES))
    if kind == "s":
        def some(*numbers):
            return dice.choice((LEAVE, LEAVE, LEAVE) + numbers)
        mode = dice.choice((0o777, 0o755, 0o700, 0o644, 0, LEAVE))
        return wanted(mode, some(5, 0), some(6), some(0, 3, 5000, 65536, 65537), some(1), some(2))
    if kind == "t":
        return text([dice.randrange(256) for turn in range(dice.randrange(1, 12))])
    return words(dice.choice((0, 1, 2, 3, 10, 100, 600, 65530, LEAVE)))


TAKES = {
    0: "", 1: "h", 2: "hs", 3: "", 4: "hn", 5: "h", 6: "hwww", 7: "", 8: "hwwwt", 9: "hns", 10: "hn", 11: "hnhn",
    12: "hhn", 13: "hnts", 14: "hns", 15: "hn", 16: "hww", 17: "h",
}


def any_packet(dice, number):
    procedure = dice.choice((2, 4, 6, 8, 9, 9, 9, 10, 11, 11, 11, 12, 12, 13, 14, 14, 14, 15, 16, dice.randrange(18)))
    parts = [any_part(dice, kind) for kind in TAKES[procedure]]
    caller = dice.choice((ROOT, ROOT, ROOT, who(5, 6), who(7, 7, (6,)), NOBODY))
    octets = packet(procedure, *parts, caller=caller, number=number)
    if dice.random() < 0.05:
        octets[dice.randrange(len(octets))] = dice.randrange(256)
    if dice.random() < 0.03:
        octets = octets[:dice.randrange(len(octets))]
    return octets


class Random(unittest.TestCase):
    def check_sound(self, files):
        things = files.things
        named = {}
        for thing in things.values():
            marks = [entry[1] for entry in thing.entries.values()]
            self.assertEqual(marks, sorted(set(marks)))
            for entry in thing.entries.values():
                named.setdefault(entry[0], []).append(thing.number)
        self.assertEqual(set(named) | {1}, set(things))
        for number, folders in named.items():
            thing = things[number]
            if thing.kind == 2:
                self.assertEqual(folders, [thing.above])
            else:
                self.assertEqual(thing.links, len(folders))
        for thing in things.values():
            if thing.kind == 2:
                below = [entry for entry in thing.entries.values() if things[entry[0]].kind == 2]
                self.assertEqual(thing.links, 2 + len(below))
                self.assertTrue(files.is_within(thing, things[1]))
        self.assertEqual(files.byte_count, sum(len(thing.octets) for thing in things.values()))
        self.assertEqual(files.entry_count, sum(len(thing.entries) for thing in things.values()))

    def test_sound_all_along(self):
        for seed in range(60):
            dice = random.Random(seed)
            house = House(100)
            calls, told, sent = [0, 100], [0], [[]]
            while len(calls) < 29500 and len(sent) < 400:
                octets = dice.choice(sent[-20:]) if dice.random() < 0.1 else any_packet(dice, len(sent))
                now = dice.randrange(1 << 32)
                sent.append(octets)
                calls += [1, now, len(octets)] + octets
                answer = house.answer(now, list(octets))
                told += [len(answer) + 1, len(answer)] + answer
                self.check_sound(house.files)
            before = list(calls)
            self.assertEqual(answers(calls), told)
            self.assertEqual(calls, before)


if __name__ == "__main__":
    unittest.main()
