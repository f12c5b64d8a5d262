import unittest

from tests.line import LEAVE, TOP, Line, handle, is_thing, text, wanted, words

TAKES_HANDLE = {
    1: (), 2: (wanted(),), 4: (text("x"),), 5: (), 6: (words(0, 0, 0),), 8: (words(0, 0, 0), text("a")),
    9: (text("x"), wanted()), 10: (text("x"),), 11: (text("x"), TOP, text("y")), 12: (TOP, text("x")),
    13: (text("x"), text("p"), wanted()), 14: (text("x"), wanted()), 15: (text("x"),), 16: (words(0, 0),), 17: (),
}


class Handles(unittest.TestCase):
    def test_none_for_each_procedure(self):
        for procedure, parts in TAKES_HANDLE.items():
            for wrong in (handle(2), handle(1, 0), handle(1, 2), handle(0, 0), handle(0, 1), handle(LEAVE, LEAVE)):
                self.assertEqual(Line().call(procedure, wrong, *parts), [70], procedure)

    def test_no_folder_for_each_procedure(self):
        for procedure in (4, 9, 10, 11, 13, 14, 15, 16):
            line = Line()
            line.make_file("f")
            line.make_pointer("p")
            for number in (2, 3):
                self.assertEqual(line.call(procedure, handle(number), *TAKES_HANDLE[procedure]), [20], procedure)

    def test_zeros_are_zeros(self):
        for place in range(8, 32):
            wrong = list(TOP)
            wrong[place] = 1
            self.assertEqual(Line().call(1, wrong), [70])

    def test_gone(self):
        line = Line()
        line.make_file("f")
        line.make_folder("d")
        line.make_pointer("p")
        line.call(10, TOP, text("f"))
        line.call(15, TOP, text("d"))
        line.call(10, TOP, text("p"))
        for number in (2, 3, 4):
            for procedure, parts in TAKES_HANDLE.items():
                self.assertEqual(line.call(procedure, handle(number), *parts), [70])


class Numbers(unittest.TestCase):
    def test_least_that_is_free(self):
        line = Line()
        for turn, name in enumerate("abcd"):
            self.assertEqual(line.make_file(name)[1:3], [2 + turn, 1])
        line.call(10, TOP, text("c"))
        line.call(10, TOP, text("a"))
        self.assertEqual(line.make_folder("x")[1:3], [2, 2])
        self.assertEqual(line.make_file("y")[1:3], [4, 2])
        self.assertEqual(line.make_file("z")[1:3], [6, 1])

    def test_next_age(self):
        line = Line()
        line.make_folder("a")
        for age in range(1, 6):
            self.assertIsNotNone(line.look(2, age))
            line.call(15, TOP, text("a"))
            self.assertIsNone(line.look(2, age))
            self.assertEqual(line.make_folder("a")[1:3], [2, age + 1])
            self.assertIsNone(line.look(2, age))

    def test_new_thing_has_nothing_of_the_old(self):
        line = Line()
        line.make_folder("d", mode=0o700)
        line.make_file("f", folder=handle(2))
        line.call(10, handle(2), text("f"))
        line.call(15, TOP, text("d"))
        line.make_folder("e")
        line.make_file("g", folder=handle(2, 2), size=3)
        self.assertEqual(line.names(handle(2, 2)), ([(2, ".", 1), (1, "..", 2), (3, "g", 3)], 1))
        self.assertEqual(line.look(3, 2), is_thing(1, 3, size=3))

    def test_a_refused_thing_uses_no_age(self):
        line = Line()
        line.make_file("f", size=65537)
        line.make_folder(".")
        self.assertEqual(line.make_file("f")[1:3], [2, 1])

    def test_number_is_free_once_another_took_the_place(self):
        line = Line()
        line.make_file("a")
        line.make_file("b")
        line.call(11, TOP, text("b"), TOP, text("a"))
        self.assertIsNone(line.look(2))
        self.assertEqual(line.make_file("c")[1:3], [2, 2])


class Now(unittest.TestCase):
    def test_going_back(self):
        line = Line(now=4294967295)
        line.make_file("f", now=4294967294)
        line.write(2, 0, "a", now=10)
        self.assertEqual(line.look(2)[11:], [4294967294, 0, 10, 0, 10, 0])
        line.read(2, now=5)
        self.assertEqual(line.look(2)[11:], [5, 0, 10, 0, 10, 0])
        line.change(2, now=0)
        self.assertEqual(line.look(2)[11:], [5, 0, 10, 0, 0, 0])
        line.call(10, TOP, text("f"), now=3)
        self.assertEqual(line.look(1)[11:], [4294967295, 0, 3, 0, 3, 0])


if __name__ == "__main__":
    unittest.main()
