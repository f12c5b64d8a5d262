import unittest

from filesgiven.house import answers
from tests.line import TOP, Line, handle, is_thing, packet, text, to_words, wanted, words


class Begin(unittest.TestCase):
    def test_answers_nothing(self):
        self.assertEqual(answers([0, 0]), [0])
        self.assertEqual(answers([0, 4294967295]), [0])

    def test_top_folder_as_at_first(self):
        for now in (0, 5, 4294967295):
            line = Line(now)
            self.assertEqual(line.look(1), is_thing(2, 1, 0o755, 2, 0, 0, 512, (now, now, now)))
            self.assertEqual(line.names(), ([(1, ".", 1), (1, "..", 2)], 1))
            self.assertEqual(line.call(17, TOP), [0, 8192, 4096, 1024, 1024, 1024])
            self.assertEqual(line.look(1, 2), None)
            self.assertEqual(line.look(2), None)

    def test_each_list_begins_anew(self):
        line = Line()
        line.make_file("a")
        self.assertEqual(len(line.names()[0]), 3)
        self.assertEqual(len(Line().names()[0]), 2)


class Layout(unittest.TestCase):
    def test_answer_with_its_counts(self):
        octets = packet(0)
        told = words(9, 1, 0, 0, 0, 0)
        self.assertEqual(answers([0, 3, 1, 4, len(octets)] + octets), [0, 25, 24] + told)

    def test_no_answer_and_no_bytes(self):
        self.assertEqual(answers([0, 3, 1, 4, 0]), [0, 1, 0])
        self.assertEqual(answers([0, 3, 1, 4, 2, 1, 1, 1, 4, 0]), [0, 1, 0, 1, 0])

    def test_several_calls_in_order(self):
        first = packet(0, number=1)
        second = packet(1, TOP, number=2)
        told = answers([0, 3, 1, 4, len(first)] + first + [1, 4, len(second)] + second)
        self.assertEqual(told[:27], [0, 25, 24] + words(1, 1, 0, 0, 0, 0))
        self.assertEqual(told[27:29], [97, 96])
        self.assertEqual(to_words(told[29:]), [2, 1, 0, 0, 0, 0, 0] + is_thing(2, 1, 0o755, 2, 0, 0, 512, (3, 3, 3)))

    def test_plain_whole_numbers(self):
        line = Line()
        line.make_file("a", size=3)
        line.read(2)
        told = answers(line.calls)
        self.assertIs(type(told), list)
        self.assertEqual({type(number) for number in told}, {int})


class NothingKept(unittest.TestCase):
    def busy(self):
        line = Line()
        line.make_folder("d", mode=0o755)
        line.make_file("f", folder=handle(2), mode=0o644, size=700)
        line.write(3, 690, "some bytes")
        line.make_pointer("p", "d/f")
        line.call(11, handle(2), text("f"), TOP, text("g"))
        line.call(12, handle(3), handle(2), text("h"))
        line.add(packet(10, TOP, text("g"), number=5))
        line.add(packet(10, TOP, text("g"), number=5))
        line.read(3)
        line.names()
        return line.calls

    def test_list_is_left_as_it_was(self):
        calls = self.busy()
        before = list(calls)
        answers(calls)
        self.assertEqual(calls, before)

    def test_list_is_never_written(self):
        class Held(list):
            def refuse(self, *parts):
                raise AssertionError("the list was changed")
            __setitem__ = __delitem__ = __iadd__ = __imul__ = refuse
            append = extend = insert = pop = remove = clear = sort = reverse = refuse

        calls = self.busy()
        self.assertEqual(answers(Held(calls)), answers(calls))

    def test_twice_the_same(self):
        calls = self.busy()
        first = answers(calls)
        second = answers(calls)
        self.assertEqual(first, second)
        self.assertIsNot(first, second)
        first.clear()
        self.assertEqual(answers(calls), second)

    def test_another_line_between(self):
        calls = self.busy()
        first = answers(calls)
        answers(Line(7).calls)
        self.assertEqual(answers(calls), first)


class Deep(unittest.TestCase):
    def test_folders_within_folders(self):
        line = Line()
        line.add_call(2, TOP, wanted(mode=0o777))
        for depth in range(190):
            line.add_call(14, handle(depth + 1), text("d"), wanted(mode=0o777))
        self.assertEqual(line.result()[:3], [0, 191, 1])
        self.assertEqual(line.call(11, TOP, text("d"), handle(191), text("x")), [22])
        self.assertEqual(line.call(4, handle(191), text(".."))[1], 190)


if __name__ == "__main__":
    unittest.main()
