import unittest

from tests.line import NOBODY, Line, handle, text, wanted, who

OWNER = who(5, 9)
MEMBER = who(8, 6)
ALSO_MEMBER = who(8, 9, (1, 2, 6))
LAST_MEMBER = who(8, 9, tuple(range(100, 115)) + (6,))
OTHER = who(8, 9, (1, 2))
FIRST = who(0, 9)


class Bytes(unittest.TestCase):
    """Thing 2 is a file of user 5, group 6."""

    def answers(self, mode):
        line = Line()
        line.make_file("f", mode=mode, size=1)
        line.change(2, user=5, group=6)
        told = []
        for caller in (OWNER, MEMBER, ALSO_MEMBER, LAST_MEMBER, OTHER, NOBODY, FIRST):
            read = line.read(2, caller=caller) != 13
            write = line.write(2, 0, "a", caller=caller) != [13]
            told.append("r" * read + "w" * write)
        return told

    def test_others_first_that_fits(self):
        self.assertEqual(self.answers(0o000), ["rw", "", "", "", "", "", "rw"])
        self.assertEqual(self.answers(0o777), ["rw"] * 7)
        self.assertEqual(self.answers(0o444), ["rw", "r", "r", "r", "r", "r", "rw"])
        self.assertEqual(self.answers(0o222), ["rw", "w", "w", "w", "w", "w", "rw"])
        self.assertEqual(self.answers(0o111), ["rw", "", "", "", "", "", "rw"])
        self.assertEqual(self.answers(0o040), ["rw", "r", "r", "r", "", "", "rw"])
        self.assertEqual(self.answers(0o020), ["rw", "w", "w", "w", "", "", "rw"])
        self.assertEqual(self.answers(0o004), ["rw", "", "", "", "r", "r", "rw"])
        self.assertEqual(self.answers(0o706), ["rw", "", "", "", "rw", "rw", "rw"])
        self.assertEqual(self.answers(0o7000), ["rw", "", "", "", "", "", "rw"])

    def test_group_0_is_no_user_0(self):
        line = Line()
        line.make_file("f", mode=0o600)
        self.assertEqual(line.read(2, caller=who(5, 0)), 13)
        self.assertEqual(line.read(2, caller=who(5, 5, (0,))), 13)

    def test_nobody_is_65534(self):
        line = Line()
        line.make_file("f", mode=0o640)
        line.change(2, group=65534)
        self.assertEqual(line.read(2, caller=NOBODY), [])
        line.change(2, mode=0, user=65534)
        self.assertEqual(line.read(2, caller=NOBODY), [])
        self.assertEqual(line.read(2, caller=who(65534)), [])

    def test_owner_makes_it_longer_and_shorter(self):
        line = Line()
        line.make_file("f", mode=0)
        line.change(2, user=5)
        self.assertEqual(line.change(2, size=4, caller=OWNER)[0], 0)
        self.assertEqual(line.make_file("f", size=2, caller=OWNER)[0], 0)
        self.assertEqual(line.make_file("f", caller=OWNER)[0], 0)


class Folders(unittest.TestCase):
    """Thing 2 is a folder of user 5, group 6; its owner has no more there than the mode says."""

    def line(self, mode):
        line = Line()
        line.make_folder("d", mode=mode)
        line.change(2, user=5, group=6)
        line.make_file("old", folder=handle(2))
        line.make_folder("sub", folder=handle(2))
        return line

    def test_read_and_go_through(self):
        rows = (
            (0o400, OWNER, True, False), (0o100, OWNER, False, True), (0o077, OWNER, False, False),
            (0o040, MEMBER, True, False), (0o010, ALSO_MEMBER, False, True), (0o707, LAST_MEMBER, False, False),
            (0o004, OTHER, True, False), (0o001, NOBODY, False, True), (0o770, OTHER, False, False),
            (0o000, FIRST, True, True),
        )
        for mode, caller, reads, goes in rows:
            line = self.line(mode)
            self.assertEqual(line.names(handle(2), caller=caller) != 13, reads)
            self.assertEqual(line.call(4, handle(2), text("old"), caller=caller) != [13], goes)

    def changes(self, line, caller):
        """Whether each procedure that makes or takes a name away was let do it."""
        folder = handle(2)
        told = [
            line.call(9, folder, text("new"), wanted(), caller=caller),
            line.call(12, handle(3), folder, text("link"), caller=caller),
            line.call(13, folder, text("p"), text("p"), wanted(), caller=caller),
            line.call(14, folder, text("e"), wanted(), caller=caller),
            line.call(11, folder, text("old"), folder, text("moved"), caller=caller),
            line.call(15, folder, text("sub"), caller=caller),
            line.call(10, folder, text("moved"), caller=caller),
        ]
        return [answer[0] for answer in told]

    def test_write_and_go_through(self):
        let = (
            (0o300, OWNER), (0o030, MEMBER), (0o030, ALSO_MEMBER), (0o030, LAST_MEMBER), (0o003, OTHER),
            (0o003, NOBODY), (0o000, FIRST),
        )
        for mode, caller in let:
            self.assertEqual(self.changes(self.line(mode), caller), [0] * 7)

    def test_either_is_not_enough(self):
        held = (
            (0o600, OWNER), (0o500, OWNER), (0o077, OWNER), (0o060, MEMBER), (0o757, MEMBER), (0o050, ALSO_MEMBER),
            (0o006, OTHER), (0o775, OTHER), (0o774, NOBODY),
        )
        for mode, caller in held:
            self.assertEqual(self.changes(self.line(mode), caller), [13] * 7)


if __name__ == "__main__":
    unittest.main()
