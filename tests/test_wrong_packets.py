import unittest

from tests.line import (
    LEAVE, NOBODY, ROOT, TOP, Line, handle, packet, text, to_words, wanted, words,
)

MISMATCH = [9, 1, 1, 0, 2, 2]
BAD_CALLER = [9, 1, 1, 1, 1]
OTHER_PROGRAM = [9, 1, 0, 0, 0, 1]
OTHER_VERSION = [9, 1, 0, 0, 0, 2, 2, 2]
NO_PROCEDURE = [9, 1, 0, 0, 0, 3]
NOT_AS_TOLD = [9, 1, 0, 0, 0, 4]
GOOD = [9, 1, 0, 0, 0, 0]


def told(octets):
    return to_words(Line().send(octets))


class Heads(unittest.TestCase):
    def test_fewer_than_24_bytes(self):
        octets = packet(0)
        for size in range(24):
            self.assertEqual(Line().send(octets[:size]), [])
        self.assertEqual(told(octets[:24]), BAD_CALLER)

    def test_second_word(self):
        for second in (1, 2, LEAVE, 1 << 24):
            self.assertEqual(told(packet(0, head=(second, 2, 100003, 2))), [])
            self.assertEqual(told(packet(99, head=(second, 3, 1, 1), caller=[])), [])

    def test_third_word(self):
        for third in (0, 1, 3, LEAVE):
            self.assertEqual(told(packet(0, head=(0, third, 100003, 2))), MISMATCH)
        self.assertEqual(told(packet(99, head=(0, 3, 1, 1), caller=[], other=[])), MISMATCH)

    def test_fourth_word(self):
        for fourth in (0, 100002, 100004, LEAVE):
            self.assertEqual(told(packet(0, head=(0, 2, fourth, 2))), OTHER_PROGRAM)
        self.assertEqual(told(packet(99, head=(0, 2, 1, 3), other=[])), OTHER_PROGRAM)
        self.assertEqual(told(packet(99, head=(0, 2, 1, 3), caller=words(2, 0))), BAD_CALLER)

    def test_fifth_word(self):
        for fifth in (0, 1, 3, LEAVE):
            self.assertEqual(told(packet(0, head=(0, 2, 100003, fifth))), OTHER_VERSION)
        self.assertEqual(told(packet(99, head=(0, 2, 100003, 3), other=[])), OTHER_VERSION)
        self.assertEqual(told(packet(99, head=(0, 2, 100003, 3), caller=words(2, 0))), BAD_CALLER)

    def test_procedure(self):
        for procedure in (18, 19, 256, LEAVE):
            self.assertEqual(told(packet(procedure)), NO_PROCEDURE)
        self.assertEqual(told(packet(18, other=[])), NO_PROCEDURE)
        self.assertEqual(told(packet(17, TOP))[:6], GOOD)

    def test_number_comes_back(self):
        for number in (0, 1, LEAVE, 0x01020304):
            self.assertEqual(told(packet(0, number=number)), [number] + GOOD[1:])


class Callers(unittest.TestCase):
    def check(self, caller, answer):
        self.assertEqual(told(packet(0, caller=caller)), answer)

    def test_kind(self):
        self.check(NOBODY, GOOD)
        self.check(words(2, 0), BAD_CALLER)
        self.check(words(LEAVE, 0), BAD_CALLER)
        self.check(words(2) + ROOT[4:], BAD_CALLER)

    def test_nobody_with_a_text(self):
        for size in (1, 3, 4, 399, 400):
            self.check(words(0) + text([7] * size, 5), GOOD)

    def test_text_too_long(self):
        self.check(words(0) + text([7] * 401), BAD_CALLER)
        self.check(words(0, LEAVE), BAD_CALLER)

    def test_not_whole(self):
        head = packet(0)[:24]
        for caller in (ROOT, words(0) + text([7] * 5)):
            for size in range(len(caller)):
                self.assertEqual(told(head + caller[:size]), BAD_CALLER)

    def inner(self, *parts):
        return words(1) + text(sum(parts, []))

    def test_name_of_kind_1(self):
        for size in (0, 1, 4, 253, 255):
            self.check(self.inner(words(LEAVE), text([0] * size, 9), words(3, 4, 0)), GOOD)
        self.check(self.inner(words(1), text([0] * 256), words(3, 4, 0)), BAD_CALLER)

    def test_groups_of_kind_1(self):
        for count in (0, 1, 15, 16):
            self.check(self.inner(words(1), text(""), words(3, 4, count), words(8) * count), GOOD)
        self.check(self.inner(words(1), text(""), words(3, 4, 17), words(8) * 17), BAD_CALLER)
        self.check(self.inner(words(1), text(""), words(3, 4, LEAVE)), BAD_CALLER)

    def test_longest_of_kind_1(self):
        self.check(self.inner(words(1), text([1] * 255), words(3, 4, 16), words(8) * 16), GOOD)

    def test_kind_1_missing_or_behind(self):
        whole = words(1) + text("abc") + words(3, 4, 1, 8)
        self.check(words(1) + text(whole), GOOD)
        for size in range(len(whole)):
            self.check(words(1) + text(whole[:size]), BAD_CALLER)
        for behind in range(1, 9):
            self.check(words(1) + text(whole + [0] * behind), BAD_CALLER)


class Others(unittest.TestCase):
    def test_not_looked_at(self):
        for other in (words(0, 0), words(LEAVE) + text([3] * 400), words(1) + text([1], 8), words(5) + text([1] * 9)):
            self.assertEqual(told(packet(0, other=other)), GOOD)

    def test_not_whole(self):
        other = words(0) + text([1] * 5)
        for size in range(len(other)):
            self.assertEqual(told(packet(0, other=other[:size])), NOT_AS_TOLD)

    def test_too_long(self):
        self.assertEqual(told(packet(0, other=words(0) + text([1] * 401))), NOT_AS_TOLD)


TAKEN = {
    0: [], 1: TOP, 2: TOP + wanted(), 3: [], 4: TOP + text("abcde"), 5: TOP, 6: TOP + words(0, 1, 2), 7: [],
    8: TOP + words(0, 1, 2) + text("abcde"), 9: TOP + text("a") + wanted(), 10: TOP + text("abcde"),
    11: TOP + text("a") + TOP + text("b"), 12: TOP + TOP + text("a"), 13: TOP + text("a") + text("b") + wanted(),
    14: TOP + text("a") + wanted(), 15: TOP + text("a"), 16: TOP + words(0, 0), 17: TOP,
}


class Taken(unittest.TestCase):
    def test_as_told(self):
        for procedure, taken in TAKEN.items():
            self.assertEqual(told(packet(procedure, taken))[:6], GOOD)

    def test_missing(self):
        for procedure, taken in TAKEN.items():
            for size in range(len(taken)):
                self.assertEqual(told(packet(procedure, taken[:size])), NOT_AS_TOLD, (procedure, size))

    def test_behind(self):
        for procedure, taken in TAKEN.items():
            for behind in (1, 3, 4, 32):
                self.assertEqual(told(packet(procedure, taken, [0] * behind)), NOT_AS_TOLD, procedure)

    def test_not_as_told_goes_before_a_handle_that_is_none(self):
        self.assertEqual(told(packet(1, handle(8), [0])), NOT_AS_TOLD)

    def test_name_texts(self):
        for procedure in (4, 10, 15):
            self.assertEqual(told(packet(procedure, TOP, text("a" * 1024))), GOOD + [63])
            self.assertEqual(told(packet(procedure, TOP, text("a" * 1025))), NOT_AS_TOLD)
            self.assertEqual(told(packet(procedure, TOP, words(LEAVE))), NOT_AS_TOLD)

    def test_path_texts(self):
        def made(path):
            return told(packet(13, TOP, text("a"), text(path), wanted()))
        self.assertEqual(made("p" * 1024), GOOD + [0])
        self.assertEqual(made("p"), GOOD + [0])
        self.assertEqual(made(""), NOT_AS_TOLD)
        self.assertEqual(made("p" * 1025), NOT_AS_TOLD)

    def test_written_texts(self):
        def written(size):
            line = Line()
            line.make_file("f")
            return to_words(line.send(packet(8, handle(2), words(0, 0, 0), text([1] * size))))
        self.assertEqual(written(8192)[:7], GOOD + [0])
        self.assertEqual(written(8193), NOT_AS_TOLD)

    def test_what_fills_up_says_nothing(self):
        line = Line()
        self.assertEqual(line.call(9, TOP, text("a", 255), wanted())[0], 0)
        self.assertEqual(line.call(4, TOP, text("a", 47))[1], 2)
        self.assertEqual(line.call(8, handle(2), words(0, 0, 0), text([1], 255))[6], 1)

    def test_a_wrong_packet_changes_nothing(self):
        line = Line()
        line.send(packet(14, TOP, text("a"), wanted(), [0]))
        line.send(packet(14, TOP, text("a"), wanted(), head=(0, 2, 100003, 3)))
        line.send(packet(14, TOP, text("a"), wanted(), head=(1, 2, 100003, 2)))
        self.assertEqual(len(line.names()[0]), 2)
        self.assertEqual(line.look(1)[-1 - 1], 100)


if __name__ == "__main__":
    unittest.main()
