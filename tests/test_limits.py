import unittest

from filesgiven.packets import House
from tests.line import NOBODY, TOP, Line, handle, is_thing, packet, text, to_words, wanted, words


class BytesInAll(unittest.TestCase):
    """Things 2 to 65 are 64 files that fill the house."""

    def setUp(self):
        self.line = Line()
        for turn in range(64):
            self.line.add_call(9, TOP, text(f"f{turn}"), wanted(size=65536))

    def test_the_last_has_room(self):
        self.assertEqual(self.line.result()[0], 0)
        self.assertEqual(self.line.call(17, TOP)[4:], [0, 0])

    def test_no_room(self):
        self.assertEqual(self.line.make_file("g", size=1), [28])
        self.assertEqual(self.line.make_file("g", size=65537), [27])
        self.assertEqual(self.line.call(4, TOP, text("g")), [2])
        self.assertEqual(self.line.make_file("g")[1], 66)
        self.assertEqual(self.line.make_file("g", size=1), [28])
        self.assertEqual(self.line.change(66, size=1, mode=0), [28])
        self.assertEqual(self.line.change(66, size=65537), [27])
        self.assertEqual(self.line.write(66, 0, "a"), [28])
        self.assertEqual(self.line.write(66, 65536, "a"), [27])
        self.assertEqual(self.line.write(66, 100, "")[6], 0)
        self.assertEqual(self.line.look(66), is_thing(1, 66))

    def test_what_is_there_may_be_written_again(self):
        self.assertEqual(self.line.write(2, 65535, "a")[0], 0)
        self.assertEqual(self.line.change(2, size=65536)[0], 0)
        self.assertEqual(self.line.make_file("f0", size=65536)[0], 0)

    def test_room_comes_back(self):
        self.line.make_file("g")
        self.line.change(2, size=65536 - 10)
        self.assertEqual(self.line.write(66, 1, [1] * 10), [28])
        self.assertEqual(self.line.write(66, 0, [1] * 10)[6], 10)
        self.assertEqual(self.line.write(66, 10, [1]), [28])
        self.line.call(10, TOP, text("f1"))
        self.assertEqual(self.line.change(66, size=65536)[6], 65536)
        self.assertEqual(self.line.write(2, 65526, [1] * 10)[6], 65536)
        self.assertEqual(self.line.change(2, size=65536)[6], 65536)
        self.line.call(11, TOP, text("f2"), TOP, text("f3"))
        self.assertEqual(self.line.call(17, TOP)[4], (65536 + 10) // 4096)

    def test_a_name_left_keeps_the_bytes(self):
        self.line.call(12, handle(2), TOP, text("more"))
        self.line.call(10, TOP, text("f0"))
        self.assertEqual(self.line.call(17, TOP)[4], 0)
        self.line.call(10, TOP, text("more"))
        self.assertEqual(self.line.call(17, TOP)[4], 16)


class EntriesInFolder(unittest.TestCase):
    """The folder is as full as the longest list of calls can make it."""

    def full(self):
        line = Line()
        line.add_call(2, TOP, wanted(mode=0o777))
        for turn in range(256):
            line.add_call(9, TOP, text(f"f{turn % 100}{chr(65 + turn // 100)}"), wanted(), caller=NOBODY)
        self.assertEqual(line.result()[0], 0)
        return line

    def test_new_things(self):
        line = self.full()
        line.add_call(14, TOP, text("x"), wanted(), caller=NOBODY)
        self.assertEqual(line.result(), [28])
        line.add_call(12, handle(2), TOP, text("x"), caller=NOBODY)
        self.assertEqual(line.result(), [28])
        self.assertLessEqual(len(line.calls), 30000)

    def test_pointer_and_file(self):
        line = self.full()
        line.add_call(13, TOP, text("x"), text("p"), wanted(), caller=NOBODY)
        self.assertEqual(line.result(), [28])
        line.add_call(9, TOP, text("x"), wanted(size=65537), caller=NOBODY)
        self.assertEqual(line.result(), [28])

    def test_what_is_there_goes_before(self):
        line = self.full()
        self.assertEqual(line.make_file("f0A", size=1, caller=NOBODY)[0], 0)
        self.assertEqual(line.make_folder("f0A", caller=NOBODY), [17])

    def test_moved_within_the_folder(self):
        line = self.full()
        self.assertEqual(line.call(11, TOP, text("f0A"), TOP, text("x"), caller=NOBODY), [0])
        self.assertEqual(line.names(mark=257), ([(257, "f55C", 258), (2, "x", 259)], 1))

    def test_a_name_gone_makes_room(self):
        line = self.full()
        self.assertEqual(line.call(10, TOP, text("f0A"), caller=NOBODY), [0])
        self.assertEqual(line.make_file("x", caller=NOBODY)[:3], [0, 2, 2])


class Direct(unittest.TestCase):
    """Limits that no list of calls is long enough for: packets go to the house one by one."""

    def setUp(self):
        self.house = House(100)
        self.number = 0

    def call(self, procedure, *parts):
        self.number += 1
        told = to_words(self.house.answer(200, packet(procedure, *parts, number=self.number)))
        self.assertEqual(told[:6], [self.number, 1, 0, 0, 0, 0])
        return told[6:]

    def fill(self, folder, how_many):
        for turn in range(how_many):
            self.assertEqual(self.call(12, handle(2), folder, text(f"n{turn}")), [0])


class Things(Direct):
    def test_512(self):
        self.call(14, TOP, text("d"), wanted())
        self.call(14, TOP, text("e"), wanted())
        for turn in range(509):
            folder = handle(2 + turn % 2)
            self.assertEqual(self.call(9, folder, text(f"f{turn}"), wanted())[:2], [0, 4 + turn])
        for procedure, parts in ((9, (wanted(size=65537),)), (13, (text("p"), wanted())), (14, (wanted(),))):
            self.assertEqual(self.call(procedure, TOP, text("x"), *parts), [28])
        self.assertEqual(self.call(12, handle(4), TOP, text("x")), [0])
        self.assertEqual(self.call(10, handle(2), text("f2")), [0])
        self.assertEqual(self.call(9, TOP, text("y"), wanted())[:3], [0, 6, 2])
        self.assertEqual(self.call(14, TOP, text("z"), wanted()), [28])


class Entries(Direct):
    def test_256_by_moving(self):
        self.call(9, TOP, text("f"), wanted())
        self.call(14, TOP, text("d"), wanted())
        self.call(9, TOP, text("g"), wanted())
        self.fill(handle(3), 256)
        before = (self.call(16, TOP, words(0, 8192)), self.call(1, TOP), self.call(1, handle(3)), self.call(1, handle(4)))
        self.assertEqual(self.call(11, TOP, text("g"), handle(3), text("x")), [28])
        after = (self.call(16, TOP, words(0, 8192)), self.call(1, TOP), self.call(1, handle(3)), self.call(1, handle(4)))
        self.assertEqual(after, before)
        self.assertEqual(self.call(11, TOP, text("g"), handle(3), text("n7")), [0])
        self.assertEqual(self.call(1, handle(2))[3], 256)
        self.assertEqual(self.call(11, handle(3), text("n8"), handle(3), text("x")), [0])
        self.assertEqual(self.call(12, handle(2), handle(3), text("y")), [28])
        self.assertEqual(self.call(11, handle(3), text("n9"), handle(3), text("n7")), [0])
        self.assertEqual(self.call(12, handle(2), handle(3), text("y")), [0])

    def test_4096_in_all(self):
        self.call(9, TOP, text("f"), wanted())
        for turn in range(17):
            self.call(14, TOP, text(f"d{turn}"), wanted())
        for turn in range(15):
            self.fill(handle(3 + turn), 256)
        self.fill(handle(18), 4096 - 18 - 15 * 256)
        self.assertEqual(self.call(12, handle(2), handle(19), text("x")), [28])
        self.assertEqual(self.call(9, TOP, text("x"), wanted(size=65537)), [28])
        self.assertEqual(self.call(13, TOP, text("x"), text("p"), wanted()), [28])
        self.assertEqual(self.call(14, TOP, text("x"), wanted()), [28])
        self.assertEqual(self.call(11, handle(3), text("n0"), handle(19), text("x")), [0])
        self.assertEqual(self.call(12, handle(2), handle(19), text("y")), [28])
        self.assertEqual(self.call(10, handle(3), text("n1")), [0])
        self.assertEqual(self.call(12, handle(2), handle(19), text("y")), [0])
        self.assertEqual(self.call(12, handle(2), handle(19), text("z")), [28])

    def test_last_mark(self):
        self.call(9, TOP, text("f"), wanted())
        self.call(14, TOP, text("d"), wanted())
        self.house.files.things[1].last_mark = 4294966999
        self.assertEqual(self.call(12, handle(2), TOP, text("g")), [0])
        self.assertEqual(self.call(16, TOP, words(4294967001, 8192)), [0, 1, 2, 1, ord("g") << 24, 4294967002, 0, 1])
        self.assertEqual(self.call(12, handle(2), TOP, text("h")), [28])
        self.assertEqual(self.call(9, TOP, text("h"), wanted()), [28])
        self.assertEqual(self.call(11, TOP, text("f"), TOP, text("h")), [28])
        self.assertEqual(self.call(11, TOP, text("f"), TOP, text("g")), [0])
        self.assertEqual(self.call(11, TOP, text("f"), handle(3), text("h")), [0])


if __name__ == "__main__":
    unittest.main()
