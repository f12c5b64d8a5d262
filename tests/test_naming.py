import unittest

from tests.line import NOBODY, TOP, Line, handle, is_thing, text, wanted, who

HANDLE_2 = [0, 2, 1, 0, 0, 0, 0, 0, 0]


def folder_times(line, number=1):
    return line.look(number)[11::2]


class MakeFile(unittest.TestCase):
    def test_new(self):
        line = Line()
        told = line.make_file("f", mode=0o4640, caller=who(0, 7), size=9, now=300)
        self.assertEqual(told, HANDLE_2 + is_thing(1, 2, 0o4640, 1, 0, 7, 9, (300, 300, 300)))
        self.assertEqual(line.read(2), [0] * 9)
        self.assertEqual(folder_times(line), [100, 300, 300])

    def test_new_looks_at_mode_and_size_alone(self):
        line = Line()
        line.change(1, mode=0o777)
        told = line.make_file("f", mode=0xFFFFFFF0, user=1, group=2, read=3, written=4, caller=who(5, 6))
        self.assertEqual(told, HANDLE_2 + is_thing(1, 2, 0o7760, 1, 5, 6))
        self.assertEqual(line.make_file("g", caller=NOBODY)[9:], is_thing(1, 3, 0, 1, 65534, 65534))

    def test_old(self):
        line = Line()
        line.make_file("f", mode=0o640, size=3)
        told = line.make_file("f", mode=0, user=1, group=2, read=3, written=4, now=900)
        self.assertEqual(told, HANDLE_2 + is_thing(1, 2, 0o640, size=3))
        self.assertEqual(folder_times(line), [100, 200, 200])

    def test_old_with_size(self):
        line = Line()
        line.make_file("f", mode=0o640)
        line.write(2, 0, "abc")
        told = line.make_file("f", size=2, now=300)
        self.assertEqual(told, HANDLE_2 + is_thing(1, 2, 0o640, size=2, times=(200, 300, 300)))
        self.assertEqual(line.read(2), [97, 98])
        self.assertEqual(line.make_file("f", size=4, now=300)[9:][5], 4)
        self.assertEqual(line.read(2), [97, 98, 0, 0])
        told = line.make_file("f", size=4, now=400, read=1, written=2)
        self.assertEqual(told[9:], is_thing(1, 2, 0o640, size=4, times=(200, 400, 400)))
        self.assertEqual(folder_times(line), [100, 200, 200])

    def test_old_is_no_file(self):
        line = Line()
        line.make_folder("d")
        line.make_pointer("p")
        for name in ("d", "p", ".", ".."):
            self.assertEqual(line.make_file(name, size=99999, caller=NOBODY), [17])

    def test_old_refusals_in_order(self):
        line = Line()
        line.make_file("f", mode=0o640)
        self.assertEqual(line.make_file("f", size=99999, caller=NOBODY), [13])
        self.assertEqual(line.make_file("f", caller=NOBODY), [13])
        self.assertEqual(line.make_file("f", size=65537), [27])
        self.assertEqual(line.look(2), is_thing(1, 2, 0o640))

    def test_old_does_not_ask_for_the_folder(self):
        line = Line()
        line.make_file("f", mode=0o602)
        line.change(1, mode=0)
        self.assertEqual(line.make_file("f", size=3, caller=NOBODY)[0], 0)

    def test_new_refusals(self):
        line = Line()
        self.assertEqual(line.make_file("f", size=65537, caller=NOBODY), [13])
        self.assertEqual(line.make_file("f", size=65537), [27])
        self.assertEqual(len(line.names()[0]), 2)
        self.assertEqual(folder_times(line), [100, 100, 100])
        self.assertEqual(line.make_file("f", size=65536)[:3], [0, 2, 1])

    def test_handles(self):
        line = Line()
        line.make_file("f")
        self.assertEqual(line.make_file("g", folder=handle(2)), [20])
        self.assertEqual(line.make_file("g", folder=handle(3)), [70])


class RemoveName(unittest.TestCase):
    def test_file_and_pointer(self):
        for make in ("make_file", "make_pointer"):
            line = Line()
            getattr(line, make)("f")
            self.assertEqual(line.call(10, TOP, text("f"), now=300), [0])
            self.assertIsNone(line.look(2))
            self.assertEqual(len(line.names()[0]), 2)
            self.assertEqual(folder_times(line), [100, 300, 300])

    def test_one_name_of_two(self):
        line = Line()
        line.make_file("f", size=3)
        line.call(12, handle(2), TOP, text("g"))
        self.assertEqual(line.look(2)[2], 2)
        self.assertEqual(line.call(10, TOP, text("f"), now=300), [0])
        self.assertEqual(line.look(2), is_thing(1, 2, size=3, times=(200, 200, 300)))
        self.assertEqual(line.call(4, TOP, text("g"))[1], 2)
        self.assertEqual(line.call(4, TOP, text("f")), [2])

    def test_refusals_in_order(self):
        line = Line()
        line.make_folder("d")
        self.assertEqual(line.call(10, TOP, text("none"), caller=NOBODY), [13])
        self.assertEqual(line.call(10, TOP, text("none")), [2])
        for name in ("d", ".", ".."):
            self.assertEqual(line.call(10, TOP, text(name), caller=NOBODY), [13])
            self.assertEqual(line.call(10, TOP, text(name)), [21])
        self.assertEqual(line.call(10, handle(9), text("d")), [70])
        self.assertEqual(folder_times(line), [100, 200, 200])

    def test_whose_it_is_says_nothing(self):
        line = Line()
        line.make_file("f", mode=0)
        line.change(1, mode=0o1777)
        self.assertEqual(line.call(10, TOP, text("f"), caller=NOBODY), [0])


class AddName(unittest.TestCase):
    def test_file_and_pointer(self):
        for make in ("make_file", "make_pointer"):
            line = Line()
            getattr(line, make)("f")
            line.make_folder("d")
            self.assertEqual(line.call(12, handle(2), handle(3), text("g"), now=300), [0])
            self.assertEqual(line.look(2)[2], 2)
            self.assertEqual(line.look(2)[11:], [200, 0, 200, 0, 300, 0])
            self.assertEqual(folder_times(line, 3), [200, 300, 300])
            self.assertEqual(line.look(3)[2], 2)
            self.assertEqual(folder_times(line, 1), [100, 200, 200])
            self.assertEqual(line.names(handle(3), 2), ([(2, "g", 3)], 1))

    def test_refusals_in_order(self):
        line = Line()
        line.make_file("f")
        line.make_folder("d")
        self.assertEqual(line.call(12, handle(3), TOP, text("f"), caller=NOBODY), [1])
        self.assertEqual(line.call(12, handle(2), TOP, text("f"), caller=NOBODY), [13])
        for name in ("f", "d", ".", ".."):
            self.assertEqual(line.call(12, handle(2), TOP, text(name)), [17])
        self.assertEqual(line.look(2)[2], 1)

    def test_handles_and_names_go_first(self):
        line = Line()
        line.make_file("f")
        self.assertEqual(line.call(12, handle(9), handle(2), text("")), [70])
        self.assertEqual(line.call(12, TOP, handle(9), text("")), [70])
        self.assertEqual(line.call(12, TOP, handle(2), text("")), [20])
        self.assertEqual(line.call(12, TOP, TOP, text("")), [2])
        self.assertEqual(line.call(12, TOP, TOP, text("x")), [1])

    def test_may_is_not_asked_of_the_file(self):
        line = Line()
        line.make_file("f", mode=0)
        line.change(1, mode=0o777)
        self.assertEqual(line.call(12, handle(2), TOP, text("g"), caller=NOBODY), [0])


class MakePointer(unittest.TestCase):
    def test_new(self):
        line = Line()
        line.change(1, mode=0o777)
        parts = (TOP, text("p"), text("to/there"), wanted(mode=0o600, user=1, group=2, size=3, read=4, written=5))
        self.assertEqual(line.call(13, *parts, caller=who(5, 6), now=300), [0])
        self.assertEqual(line.look(2), is_thing(5, 2, 0o777, 1, 5, 6, 8, (300, 300, 300)))
        self.assertEqual(folder_times(line), [100, 300, 300])
        self.assertEqual(line.look(1)[2], 2)

    def test_refusals_in_order(self):
        line = Line()
        line.make_file("f")
        self.assertEqual(line.make_pointer("f", caller=NOBODY), [13])
        self.assertEqual(line.make_pointer("new", caller=NOBODY), [13])
        for name in ("f", ".", ".."):
            self.assertEqual(line.make_pointer(name), [17])
        self.assertEqual(line.make_pointer("x", folder=handle(2)), [20])
        self.assertEqual(line.make_pointer("x", folder=handle(3)), [70])


class MakeFolder(unittest.TestCase):
    def test_new(self):
        line = Line()
        line.change(1, mode=0o777)
        told = line.make_folder("d", mode=0xFFFF0755, user=1, group=2, size=3, read=4, written=5, caller=who(5, 6), now=300)
        mode = 0xFFFF0755 & 0o7777
        self.assertEqual(told, HANDLE_2 + is_thing(2, 2, mode, 2, 5, 6, 512, (300, 300, 300)))
        self.assertEqual(line.look(1)[2], 3)
        self.assertEqual(folder_times(line), [100, 300, 300])
        self.assertEqual(line.names(handle(2)), ([(2, ".", 1), (1, "..", 2)], 1))

    def test_mode_left(self):
        self.assertEqual(Line().make_folder("d")[9:], is_thing(2, 2, 0, 2, size=512))

    def test_refusals_in_order(self):
        line = Line()
        line.make_file("f")
        self.assertEqual(line.make_folder("f", caller=NOBODY), [13])
        for name in ("f", ".", ".."):
            self.assertEqual(line.make_folder(name), [17])
        self.assertEqual(line.make_folder("x", folder=handle(2)), [20])
        self.assertEqual(line.make_folder("x", folder=handle(3)), [70])


class RemoveFolder(unittest.TestCase):
    def test_dots_of_an_empty_top_folder(self):
        line = Line()
        self.assertEqual(line.call(15, TOP, text(".")), [22])
        self.assertEqual(line.call(15, TOP, text("..")), [66])

    def test_gone(self):
        line = Line()
        line.make_folder("d")
        self.assertEqual(line.call(15, TOP, text("d"), now=300), [0])
        self.assertIsNone(line.look(2))
        self.assertEqual(line.look(1), is_thing(2, 1, 0o755, 2, size=512, times=(100, 300, 300)))

    def test_refusals_in_order(self):
        line = Line()
        line.make_file("f")
        line.make_folder("d")
        line.make_file("g", folder=handle(3))
        for name in (".", "..", "none", "f", "d"):
            self.assertEqual(line.call(15, TOP, text(name), caller=NOBODY), [13])
        for name, answer in ((".", 22), ("..", 66), ("none", 2), ("f", 20), ("d", 66)):
            self.assertEqual(line.call(15, TOP, text(name)), [answer])
        self.assertEqual(line.call(15, handle(2), text("d")), [20])
        self.assertEqual(line.call(15, handle(9), text("d")), [70])
        self.assertEqual(line.call(10, handle(3), text("g")), [0])
        self.assertEqual(line.call(15, TOP, text("d")), [0])


if __name__ == "__main__":
    unittest.main()
