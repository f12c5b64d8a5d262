import unittest

from tests.line import NOBODY, TOP, Line, handle, is_thing, text, wanted, who, words


class Nothing(unittest.TestCase):
    def test_not_even_a_word(self):
        for procedure in (0, 3, 7):
            self.assertEqual(Line().call(procedure), [])
            self.assertEqual(Line().call(procedure, caller=NOBODY), [])


class WhatItIs(unittest.TestCase):
    def test_each_kind(self):
        line = Line()
        line.make_file("f", mode=0o644, size=513, caller=who(0, 7))
        line.make_folder("d", mode=0o4711, caller=who(0, 8))
        line.make_pointer("p", "q" * 1024)
        self.assertEqual(line.call(1, handle(2)), [0] + is_thing(1, 2, 0o644, 1, 0, 7, 513))
        self.assertEqual(line.call(1, handle(3)), [0] + is_thing(2, 3, 0o4711, 2, 0, 8, 512))
        self.assertEqual(line.call(1, handle(4)), [0] + is_thing(5, 4, 0o777, 1, 0, 0, 1024))

    def test_blocks_are_rounded_up(self):
        for size, blocks in ((0, 0), (1, 1), (512, 1), (513, 2), (65536, 128)):
            line = Line()
            told = line.make_file("f", size=size)[9:]
            self.assertEqual((told[5], told[8]), (size, blocks))

    def test_anybody_may_ask(self):
        line = Line()
        line.make_file("f", mode=0)
        self.assertEqual(line.call(1, handle(2), caller=NOBODY), [0] + is_thing(1, 2))

    def test_folder_links(self):
        line = Line()
        line.make_folder("d")
        line.make_folder("e")
        line.make_folder("g", folder=handle(2))
        line.make_file("f")
        self.assertEqual(line.look(1)[2], 4)
        self.assertEqual(line.look(2)[2], 3)
        self.assertEqual(line.look(3)[2], 2)
        line.call(15, TOP, text("e"))
        self.assertEqual(line.look(1)[2], 3)

    def test_handle_that_is_none(self):
        self.assertEqual(Line().call(1, handle(2)), [70])


class LookUp(unittest.TestCase):
    def setUp(self):
        self.line = Line()
        self.line.make_folder("d", mode=0o755)
        self.line.make_file("f", folder=handle(2), mode=0o600)

    def test_name(self):
        told = self.line.call(4, handle(2), text("f"), now=900)
        self.assertEqual(told, [0, 3, 1, 0, 0, 0, 0, 0, 0] + is_thing(1, 3, 0o600))

    def test_dots(self):
        folder = [0, 2, 1, 0, 0, 0, 0, 0, 0] + is_thing(2, 2, 0o755, 2, size=512)
        top = [0, 1, 1, 0, 0, 0, 0, 0, 0] + is_thing(2, 1, 0o755, 3, size=512, times=(100, 200, 200))
        self.assertEqual(self.line.call(4, handle(2), text(".")), folder)
        self.assertEqual(self.line.call(4, handle(2), text("..")), top)
        self.assertEqual(self.line.call(4, TOP, text(".")), top)
        self.assertEqual(self.line.call(4, TOP, text("..")), top)

    def test_not_there(self):
        for name in ("g", "...", "F", "f ", "ff"):
            self.assertEqual(self.line.call(4, handle(2), text(name)), [2])

    def test_names_are_bytes(self):
        self.line.make_file([255, 1, 128])
        self.assertEqual(self.line.call(4, TOP, text([255, 1, 128]))[1], 4)
        self.assertEqual(self.line.call(4, TOP, text([255, 1, 129])), [2])

    def test_may_not_go_through(self):
        self.line.change(2, mode=0o766)
        for name in ("f", "none", ".", ".."):
            self.assertEqual(self.line.call(4, handle(2), text(name), caller=who(5)), [13])
        self.assertEqual(self.line.call(4, handle(2), text("f"))[0], 0)
        self.line.change(2, mode=0o001)
        self.assertEqual(self.line.call(4, handle(2), text("f"), caller=who(5))[0], 0)

    def test_handles(self):
        self.assertEqual(self.line.call(4, handle(9), text("f")), [70])
        self.assertEqual(self.line.call(4, handle(3), text("f")), [20])
        self.assertEqual(self.line.call(4, handle(9), text("")), [70])
        self.assertEqual(self.line.call(4, handle(3), text("")), [20])

    def test_wrong_name_goes_before_may(self):
        self.line.change(2, mode=0)
        self.assertEqual(self.line.call(4, handle(2), text("x" * 256), caller=who(5)), [63])
        self.assertEqual(self.line.call(4, handle(2), text(""), caller=who(5)), [2])


class Names(unittest.TestCase):
    """Each procedure that takes a name holds it behind its folder."""

    def parts(self, folder, name):
        return {
            4: (folder, name), 9: (folder, name, wanted()), 10: (folder, name),
            11: (folder, name, TOP, text("x")), 12: (handle(2), folder, name),
            13: (folder, name, text("p"), wanted()), 14: (folder, name, wanted()), 15: (folder, name),
        }

    def check(self, folder, name, answer):
        for procedure, parts in self.parts(folder, text(name)).items():
            line = Line()
            line.make_file("f")
            self.assertEqual(line.call(procedure, *parts), [answer], (procedure, name))

    def test_refusals(self):
        self.check(TOP, "", 2)
        self.check(TOP, "n" * 256, 63)
        self.check(TOP, "n" * 1024, 63)
        self.check(TOP, "/" * 256, 63)
        for name in ("/", "a/b", "/a", "a/", "\0", "a\0", "n" * 254 + "/"):
            self.check(TOP, name, 13)

    def test_folder_goes_first(self):
        for name in ("", "n" * 256, "/"):
            self.check(handle(7), name, 70)
            self.check(handle(2), name, 20)

    def test_longest_and_shortest(self):
        for name in ("n" * 255, "n", " ", "\n", "..."):
            line = Line()
            self.assertEqual(line.make_file(name)[0], 0)
            self.assertEqual(line.call(4, TOP, text(name))[1], 2)


class Path(unittest.TestCase):
    def test_path(self):
        for path in ("p", "a/b", "/", "..", "x" * 1024, "abc\0"):
            line = Line()
            self.assertEqual(line.make_pointer("p", path), [0])
            line.add_call(5, handle(2), caller=NOBODY)
            self.assertEqual(line.answer()[24:], words(0) + text(path))
            self.assertEqual(line.look(2)[11], 200)

    def test_no_pointer(self):
        line = Line()
        line.make_file("f")
        self.assertEqual(line.call(5, TOP), [22])
        self.assertEqual(line.call(5, handle(2)), [22])
        self.assertEqual(line.call(5, handle(3)), [70])


class Listing(unittest.TestCase):
    def setUp(self):
        self.line = Line()
        self.line.make_folder("dd")
        for name in ("one", "four", "three"):
            self.line.make_file(name, folder=handle(2))

    def test_all(self):
        rows = [(2, ".", 1), (1, "..", 2), (3, "one", 3), (4, "four", 4), (5, "three", 5)]
        for mark in range(8):
            self.assertEqual(self.line.names(handle(2), mark), (rows[mark:], 1))
        self.assertEqual(self.line.names(handle(2), 0xFFFFFFFF), ([], 1))

    def test_bytes(self):
        self.line.add_call(16, handle(2), words(3, 8192))
        told = words(0) + words(1, 4) + text("four") + words(4) + words(1, 5) + text("three") + words(5) + words(0, 1)
        self.assertEqual(self.line.answer()[24:], told)

    def test_room(self):
        sizes = [20, 20, 20, 20, 24]
        for count in range(130):
            rows, none_more = self.line.names(handle(2), 0, count)
            fitting = [k for k in range(6) if 12 + sum(sizes[:k]) <= count]
            self.assertEqual(len(rows), len(fitting) - 1 if fitting else 0, count)
            self.assertEqual(none_more, 1 if len(rows) == 5 else 0)

    def test_room_with_nothing_left_to_tell(self):
        for count in (0, 11, 12):
            self.assertEqual(self.line.names(handle(2), 5, count), ([], 1))
            self.assertEqual(self.line.names(handle(2), 4, count), ([], 0))

    def test_stops_at_the_first_without_room(self):
        self.line.make_file("n" * 100, folder=handle(2))
        self.line.make_file("z", folder=handle(2))
        rows, none_more = self.line.names(handle(2), 5, 60)
        self.assertEqual((rows, none_more), ([], 0))

    def test_8192_at_most(self):
        line = Line()
        for turn in range(32):
            line.add_call(9, TOP, text(f"{turn:02d}" + "n" * 250), wanted())
        sizes = 12 + 20 + 20
        each = 16 + 252
        fitting = (8192 - sizes) // each
        self.assertLess(fitting, 32)
        for count in (8192, 8193, 0xFFFFFFFF):
            rows, none_more = line.names(count=count)
            self.assertEqual((len(rows), none_more), (2 + fitting, 0))
        line.add_call(16, TOP, words(0, 0xFFFFFFFF))
        self.assertEqual(len(line.answer()) - 24, sizes + fitting * each)

    def test_just_8192(self):
        for last, none_more in ((84, 1), (85, 0)):
            line = Line()
            for turn in range(30):
                line.add_call(9, TOP, text(f"{turn:02d}" + "n" * 250), wanted())
            line.make_file("m" * last)
            line.add_call(16, TOP, words(0, 0xFFFFFFFF))
            self.assertEqual(len(line.answer()) - 24, 8192 if none_more else 8092)
            self.assertEqual(line.names()[1], none_more)

    def test_marks_go_on(self):
        self.line.call(10, handle(2), text("three"))
        self.line.make_file("three", folder=handle(2))
        self.line.call(11, handle(2), text("one"), handle(2), text("uno"))
        self.assertEqual(self.line.names(handle(2), 2), ([(4, "four", 4), (5, "three", 6), (3, "uno", 7)], 1))

    def test_may(self):
        self.line.change(2, mode=0o733)
        self.assertEqual(self.line.names(handle(2), caller=who(5)), 13)
        self.line.change(2, mode=0o004)
        self.assertEqual(len(self.line.names(handle(2), caller=who(5))[0]), 5)
        self.assertEqual(len(self.line.names(handle(2))[0]), 5)

    def test_refusals(self):
        self.assertEqual(self.line.names(handle(3)), 20)
        self.assertEqual(self.line.names(handle(9)), 70)

    def test_times_stay(self):
        before = self.line.look(2)
        self.line.add_call(16, handle(2), words(0, 8192), now=900)
        self.assertEqual(self.line.look(2), before)


class Room(unittest.TestCase):
    def test_blocks_left(self):
        line = Line()
        for name, size, left in (("a", 0, 1024), ("b", 1, 1023), ("c", 4095, 1023), ("d", 1, 1022), ("e", 65536, 1006)):
            line.make_file(name, size=size)
            self.assertEqual(line.call(17, TOP, caller=NOBODY), [0, 8192, 4096, 1024, left, left])
        line.make_folder("f")
        line.make_pointer("p", "q" * 1000)
        self.assertEqual(line.call(17, handle(2))[4], 1006)
        line.call(10, TOP, text("e"))
        self.assertEqual(line.call(17, handle(8))[4], 1022)
        line.change(3, size=0)
        self.assertEqual(line.call(17, TOP)[4], 1023)
        line.write(2, 9000, "a")
        self.assertEqual(line.call(17, TOP)[4], 1020)

    def test_any_thing_has_it(self):
        line = Line()
        line.make_pointer("p")
        self.assertEqual(line.call(17, handle(2))[0], 0)
        self.assertEqual(line.call(17, handle(3)), [70])


if __name__ == "__main__":
    unittest.main()
