import unittest

from tests.line import LEAVE, NOBODY, Line, handle, is_thing, text, who, words


class Read(unittest.TestCase):
    def setUp(self):
        self.line = Line()
        self.line.make_file("f", mode=0o640, caller=who(0, 6))
        self.line.write(2, 0, "hello, world")

    def test_from_there_on(self):
        whole = list(b"hello, world")
        for start in (0, 1, 5, 11, 12, 13, 65536, LEAVE):
            for count in (0, 1, 4, 11, 12, 13, LEAVE):
                self.assertEqual(self.line.read(2, start, count), whole[start:start + count])

    def test_answer(self):
        self.line.add_call(6, handle(2), words(7, 5, 0), now=300)
        told = words(0, *is_thing(1, 2, 0o640, 1, 0, 6, 12, (300, 200, 200))) + text("world")
        self.assertEqual(self.line.answer()[24:], told)

    def test_read_now_also_without_bytes(self):
        self.line.add_call(6, handle(2), words(50, 5, 0), now=50)
        told = words(0, *is_thing(1, 2, 0o640, 1, 0, 6, 12, (50, 200, 200))) + text("")
        self.assertEqual(self.line.answer()[24:], told)
        self.assertEqual(self.line.look(2)[11:], [50, 0, 200, 0, 200, 0])

    def test_8192_at_most(self):
        self.line.change(2, size=9000)
        self.assertEqual(len(self.line.read(2, 0, 8191)), 8191)
        self.assertEqual(len(self.line.read(2, 0, 8192)), 8192)
        self.assertEqual(len(self.line.read(2, 0, 8193)), 8192)
        self.assertEqual(len(self.line.read(2, 1000, LEAVE)), 8000)

    def test_refusals(self):
        self.line.make_pointer("p")
        self.assertEqual(self.line.read(1, caller=NOBODY), 21)
        self.assertEqual(self.line.read(3, caller=NOBODY), 22)
        self.assertEqual(self.line.read(2, caller=NOBODY, now=900), 13)
        self.assertEqual(self.line.read(4), 70)
        self.assertEqual(self.line.look(2)[11], 200)

    def test_may(self):
        self.assertEqual(len(self.line.read(2, caller=who(5, 6))), 12)
        self.assertEqual(self.line.read(2, caller=who(5, 7)), 13)


class Write(unittest.TestCase):
    def setUp(self):
        self.line = Line()
        self.line.make_file("f", mode=0o600)

    def test_answer_and_times(self):
        told = self.line.write(2, 0, "abc", now=300)
        self.assertEqual(told, [0] + is_thing(1, 2, 0o600, size=3, times=(200, 300, 300)))
        self.assertEqual(self.line.write(2, 0, "", now=50), [0] + is_thing(1, 2, 0o600, size=3, times=(200, 50, 50)))

    def test_over_and_behind(self):
        self.line.write(2, 0, "abcdef")
        self.line.write(2, 2, "XY")
        self.assertEqual(self.line.read(2), list(b"abXYef"))
        self.line.write(2, 5, "123")
        self.assertEqual(self.line.read(2), list(b"abXYe123"))
        self.line.write(2, 8, "!")
        self.assertEqual(self.line.read(2), list(b"abXYe123!"))

    def test_zeros_before(self):
        self.line.write(2, 0, "ab")
        self.assertEqual(self.line.write(2, 5, "c")[6], 6)
        self.assertEqual(self.line.read(2), [97, 98, 0, 0, 0, 99])

    def test_without_bytes_nothing_is_added(self):
        self.line.write(2, 0, "ab")
        for start in (0, 1, 2, 3, 100, 65536):
            self.assertEqual(self.line.write(2, start, "")[6], 2)
        self.assertEqual(self.line.read(2), [97, 98])

    def test_beyond_65536(self):
        self.assertEqual(self.line.write(2, 65536, "a"), [27])
        self.assertEqual(self.line.write(2, 65535, "ab"), [27])
        self.assertEqual(self.line.write(2, LEAVE, "a"), [27])
        self.assertEqual(self.line.write(2, LEAVE, "aaaa"), [27])
        self.assertEqual(self.line.write(2, 65537, ""), [27])
        self.assertEqual(self.line.look(2)[5], 0)
        self.assertEqual(self.line.write(2, 65535, "a")[6], 65536)
        self.assertEqual(self.line.write(2, 65535, "b")[6], 65536)
        self.assertEqual(self.line.read(2, 65530), [0, 0, 0, 0, 0, 98])

    def test_refusals_in_order(self):
        self.line.make_pointer("p")
        self.assertEqual(self.line.write(1, 65536, "a", caller=NOBODY), [21])
        self.assertEqual(self.line.write(3, 65536, "a", caller=NOBODY), [22])
        self.assertEqual(self.line.write(2, 65536, "a", caller=NOBODY), [13])
        self.assertEqual(self.line.write(4, 0, "a"), [70])
        self.assertEqual(self.line.look(2), is_thing(1, 2, 0o600))

    def test_longest(self):
        octets = [k % 251 for k in range(8192)]
        self.line.write(2, 3, octets)
        self.assertEqual(self.line.read(2, 3), octets)


class Settings(unittest.TestCase):
    def setUp(self):
        self.line = Line()
        self.line.make_folder("d", mode=0o777)
        self.line.make_file("f", folder=handle(2), mode=0o644, size=4, caller=who(5, 6))
        self.line.make_pointer("p", folder=handle(2), caller=who(5, 6))

    def thing(self, **settings):
        usual = {"mode": 0o644, "user": 5, "group": 6, "size": 4, "times": (200, 200, 300)}
        return [0] + is_thing(1, 3, **{**usual, **settings})

    def test_nothing_told(self):
        self.assertEqual(self.line.change(3, now=300), self.thing())
        self.assertEqual(self.line.change(3, now=300, caller=NOBODY), self.thing())

    def test_mode(self):
        self.assertEqual(self.line.change(3, now=300, mode=0o7123, caller=who(5)), self.thing(mode=0o7123))
        self.assertEqual(self.line.change(3, now=300, mode=0x8000 + 0o7777), self.thing(mode=0o7777))
        self.assertEqual(self.line.change(3, now=300, mode=0xFFFFFFFE), self.thing(mode=0o7776))
        self.assertEqual(self.line.change(3, now=300, mode=0), self.thing(mode=0))
        self.assertEqual(self.line.change(4, mode=0o600)[2], 0o120600)
        self.assertEqual(self.line.change(2, mode=0o600)[2], 0o040600)

    def test_user_and_group(self):
        self.assertEqual(self.line.change(3, now=300, user=8), self.thing(user=8))
        self.assertEqual(self.line.change(3, now=300, group=9), self.thing(user=8, group=9))
        self.assertEqual(self.line.change(3, now=300, user=0, group=0xFFFFFFFE), self.thing(user=0, group=0xFFFFFFFE))

    def test_times(self):
        self.assertEqual(self.line.change(3, now=300, read=7, caller=who(5)), self.thing(times=(7, 200, 300)))
        self.assertEqual(self.line.change(3, now=300, written=8, caller=who(5)), self.thing(times=(7, 8, 300)))
        self.assertEqual(self.line.change(3, now=20, read=0, written=0), self.thing(times=(0, 0, 20)))

    def test_size(self):
        self.line.write(3, 0, "abcd")
        self.assertEqual(self.line.change(3, now=300, size=6), self.thing(size=6, times=(200, 300, 300)))
        self.assertEqual(self.line.read(3), list(b"abcd\0\0"))
        self.assertEqual(self.line.change(3, size=2)[6], 2)
        self.assertEqual(self.line.change(3, size=4)[6], 4)
        self.assertEqual(self.line.read(3), list(b"ab\0\0"))
        self.assertEqual(self.line.change(3, size=0)[6], 0)
        self.assertEqual(self.line.read(3), [])

    def test_size_the_same_is_written_too(self):
        self.assertEqual(self.line.change(3, now=300, size=4), self.thing(times=(200, 300, 300)))

    def test_size_and_written(self):
        self.assertEqual(self.line.change(3, now=300, size=6, written=9), self.thing(size=6, times=(200, 9, 300)))

    def test_not_theirs(self):
        for settings in ({"mode": 0}, {"read": 0}, {"written": 0}, {"mode": 0, "size": 99999}):
            self.assertEqual(self.line.change(3, caller=who(7, 6), **settings), [1])
            self.assertEqual(self.line.change(3, caller=NOBODY, **settings), [1])
        for settings in ({"user": 5}, {"group": 6}, {"user": 5, "size": 99999}, {"group": 6, "mode": 0}):
            self.assertEqual(self.line.change(3, caller=who(5, 6), **settings), [1])
        self.assertEqual(self.line.change(2, caller=who(5), mode=0, size=1), [1])
        self.assertEqual(self.line.look(3), self.thing(times=(200, 200, 200))[1:])

    def test_size_refusals_in_order(self):
        self.assertEqual(self.line.change(2, size=99999, caller=NOBODY), [21])
        self.assertEqual(self.line.change(4, size=99999, caller=NOBODY), [22])
        self.assertEqual(self.line.change(3, size=99999, caller=NOBODY), [13])
        self.assertEqual(self.line.change(3, size=65537, mode=0, read=1), [27])
        self.assertEqual(self.line.change(3, size=0xFFFFFFFE), [27])
        self.assertEqual(self.line.change(9, size=0), [70])
        self.assertEqual(self.line.look(3), self.thing(times=(200, 200, 200))[1:])
        self.assertEqual(self.line.change(3, size=65536)[6], 65536)

    def test_size_is_for_who_may_write(self):
        self.line.change(3, mode=0o002)
        self.assertEqual(self.line.change(3, size=1, caller=NOBODY)[6], 1)
        self.assertEqual(self.line.change(3, size=2, caller=who(5))[6], 2)
        self.assertEqual(self.line.change(3, size=3, caller=who(8, 6)), [13])

    def test_mode_that_shuts_out_is_looked_at_beforehand(self):
        self.line.change(3, mode=0o666, user=8)
        self.assertEqual(self.line.change(3, mode=0, size=1, caller=who(8))[6], 1)


if __name__ == "__main__":
    unittest.main()
