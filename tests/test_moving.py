import unittest

from tests.line import NOBODY, TOP, Line, handle, is_thing, text, who


class Move(unittest.TestCase):
    """Things 2 and 3 are the folders d and e, 4 the file f, 5 the file g, 6 the pointer p, 7 the folder d/in."""

    def setUp(self):
        self.line = Line()
        self.line.make_folder("d", mode=0o755)
        self.line.make_folder("e", mode=0o755)
        self.line.make_file("f", size=1)
        self.line.make_file("g", size=2)
        self.line.make_pointer("p")
        self.line.make_folder("in", folder=handle(2), mode=0o755)

    def move(self, folder, name, second, second_name, **settings):
        parts = (handle(folder), text(name), handle(second), text(second_name))
        return self.line.call(11, *parts, **{"now": 300, **settings})

    def found(self, folder, name):
        told = self.line.call(4, handle(folder), text(name))
        return told[1] if told[0] == 0 else None

    def test_within_a_folder(self):
        self.assertEqual(self.move(1, "f", 1, "h"), [0])
        self.assertEqual(self.line.look(4), is_thing(1, 4, size=1, times=(200, 200, 300)))
        self.assertEqual(self.line.look(1)[11:], [100, 0, 300, 0, 300, 0])
        rows = [(2, "d", 3), (3, "e", 4), (5, "g", 6), (6, "p", 7), (4, "h", 8)]
        self.assertEqual(self.line.names(mark=2), (rows, 1))

    def test_to_another_folder(self):
        self.assertEqual(self.move(1, "f", 3, "f"), [0])
        self.assertEqual(self.line.look(4), is_thing(1, 4, size=1, times=(200, 200, 300)))
        self.assertEqual(self.line.look(1)[11:], [100, 0, 300, 0, 300, 0])
        self.assertEqual(self.line.look(3)[11:], [200, 0, 300, 0, 300, 0])
        self.assertEqual(self.found(1, "f"), None)
        self.assertEqual(self.line.names(handle(3), 2), ([(4, "f", 3)], 1))

    def test_folder_has_another_above(self):
        self.assertEqual(self.move(2, "in", 3, "on"), [0])
        self.assertEqual(self.found(7, ".."), 3)
        self.assertEqual(self.line.look(2)[2], 2)
        self.assertEqual(self.line.look(3)[2], 3)
        self.assertEqual(self.line.look(7), is_thing(2, 7, 0o755, 2, size=512, times=(200, 200, 300)))
        self.assertEqual(self.line.names(handle(7)), ([(7, ".", 1), (3, "..", 2)], 1))

    def test_file_over_a_file(self):
        self.assertEqual(self.move(1, "f", 1, "g"), [0])
        self.assertIsNone(self.line.look(5))
        self.assertEqual(self.found(1, "g"), 4)
        self.assertEqual(self.found(1, "f"), None)
        self.assertEqual(self.line.look(4)[2], 1)

    def test_over_one_name_of_two(self):
        self.line.call(12, handle(5), TOP, text("g2"))
        self.assertEqual(self.move(1, "f", 1, "g"), [0])
        self.assertEqual(self.line.look(5), is_thing(1, 5, size=2, times=(200, 200, 300)))

    def test_pointer_and_file_over_one_another(self):
        self.assertEqual(self.move(1, "p", 1, "g"), [0])
        self.assertIsNone(self.line.look(5))
        self.assertEqual(self.move(1, "f", 1, "g"), [0])
        self.assertIsNone(self.line.look(6))

    def test_folder_over_an_empty_folder(self):
        self.assertEqual(self.move(1, "d", 1, "e"), [0])
        self.assertIsNone(self.line.look(3))
        self.assertEqual(self.found(1, "e"), 2)
        self.assertEqual(self.line.look(1)[2], 3)
        self.assertEqual(self.line.look(2)[2], 3)

    def test_the_same_thing(self):
        self.line.call(12, handle(4), TOP, text("f2"))
        before = (self.line.look(1), self.line.look(4), self.line.names())
        self.assertEqual(self.move(1, "f", 1, "f"), [0])
        self.assertEqual(self.move(1, "f", 1, "f2"), [0])
        self.assertEqual(self.move(1, "d", 1, "d"), [0])
        self.assertEqual((self.line.look(1), self.line.look(4), self.line.names()), before)
        self.assertEqual(self.line.look(2)[-2], 200)

    def test_13_of_either(self):
        self.line.change(3, mode=0o777)
        for folder, second in ((1, 1), (1, 3), (3, 1)):
            self.assertEqual(self.move(folder, "none", second, ".", caller=NOBODY), [13])
        self.assertEqual(self.move(3, "none", 3, ".", caller=NOBODY), [2])

    def test_2_goes_before_dots(self):
        self.assertEqual(self.move(1, "none", 1, "."), [2])
        self.assertEqual(self.move(1, "none", 1, ".."), [2])

    def test_dots(self):
        for dots in (".", ".."):
            self.assertEqual(self.move(1, dots, 1, "x"), [22])
            self.assertEqual(self.move(2, dots, 1, "e"), [22])
            self.assertEqual(self.move(1, "f", 1, dots), [22])
            self.assertEqual(self.move(1, "f", 2, dots), [22])
            self.assertEqual(self.move(1, "d", 1, dots), [22])

    def test_into_itself_or_below(self):
        self.assertEqual(self.move(1, "d", 2, "x"), [22])
        self.assertEqual(self.move(1, "d", 7, "x"), [22])
        self.assertEqual(self.move(1, "d", 2, "in"), [22])
        self.line.make_file("f", folder=handle(7))
        self.assertEqual(self.move(1, "d", 7, "f"), [22])
        self.assertEqual(self.move(2, "in", 1, "x"), [0])
        self.assertEqual(self.move(1, "d", 7, "x"), [0])

    def test_kinds(self):
        self.assertEqual(self.move(1, "f", 1, "d"), [21])
        self.assertEqual(self.move(1, "p", 1, "e"), [21])
        self.assertEqual(self.move(1, "e", 1, "f"), [20])
        self.assertEqual(self.move(1, "d", 1, "p"), [20])
        self.assertEqual(self.move(1, "e", 1, "d"), [66])
        self.assertEqual(self.move(2, "in", 1, "d"), [66])
        self.assertEqual(self.line.look(1)[11:], [100, 0, 200, 0, 200, 0])

    def test_handles_and_names_in_turn(self):
        def first_word(*parts):
            return self.line.call(11, *parts)
        long, none, slash, file = text("n" * 256), text(""), text("/"), handle(4)
        self.assertEqual(first_word(handle(99), long, file, none), [70])
        self.assertEqual(first_word(file, long, handle(99), none), [20])
        self.assertEqual(first_word(TOP, long, handle(99), none), [63])
        self.assertEqual(first_word(TOP, none, handle(99), long), [2])
        self.assertEqual(first_word(TOP, slash, handle(99), long), [13])
        self.assertEqual(first_word(TOP, text("none"), handle(99), long), [70])
        self.assertEqual(first_word(TOP, text("none"), file, long), [20])
        self.assertEqual(first_word(TOP, text("none"), TOP, long), [63])
        self.assertEqual(first_word(TOP, text("f"), TOP, none), [2])
        self.assertEqual(first_word(TOP, text("none"), TOP, slash), [13])

    def test_anybody_who_may_write_both(self):
        self.line.change(1, mode=0o777)
        self.line.change(3, mode=0o733)
        self.assertEqual(self.move(1, "f", 3, "f", caller=who(5)), [0])


if __name__ == "__main__":
    unittest.main()
