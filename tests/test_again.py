import unittest

from tests.line import TOP, Line, handle, packet, text, to_words, wanted, who, words


def fill(line, how_many, start=0):
    """So many other calls of a procedure that is held for Again."""
    for turn in range(how_many):
        line.add(packet(2, TOP, wanted(), number=5000 + start + turn))


class Again(unittest.TestCase):
    def test_same_answer_and_nothing_happens(self):
        line = Line()
        octets = packet(9, TOP, text("a"), wanted(mode=0o600, size=5))
        first = line.send(octets, now=200)
        self.assertEqual(line.send(octets, now=300), first)
        self.assertEqual(line.look(2)[11:], [200, 0, 200, 0, 200, 0])

    def test_each_procedure(self):
        cases = {
            2: (TOP, wanted(mode=0o700)),
            8: (handle(2), words(0, 0, 0), text("abc")),
            9: (TOP, text("new"), wanted()),
            10: (TOP, text("f")),
            11: (TOP, text("f"), TOP, text("g")),
            12: (handle(2), TOP, text("g")),
            13: (TOP, text("p"), text("path"), wanted()),
            14: (TOP, text("e"), wanted()),
            15: (TOP, text("d")),
        }
        for procedure, parts in cases.items():
            line = Line()
            line.make_file("f")
            line.make_folder("d")
            octets = packet(procedure, *parts)
            first = line.send(octets, now=300)
            self.assertEqual(to_words(first)[6], 0, procedure)
            self.assertEqual(line.send(octets, now=400), first, procedure)
            self.assertNotIn(400, line.look(1), procedure)
            self.assertNotIn(400, line.look(2) or [], procedure)

    def test_other_procedures_are_run_each_time(self):
        line = Line()
        line.make_file("f", size=1)
        for procedure, parts in ((1, (handle(2),)), (4, (TOP, text("f"))), (6, (handle(2), words(0, 9, 0)))):
            octets = packet(procedure, *parts)
            first = line.send(octets)
            self.assertEqual(line.change(2, written=line.number)[0], 0)
            self.assertNotEqual(line.send(octets), first, procedure)
        for procedure, parts in ((16, (TOP, words(0, 8192))), (17, (TOP,))):
            octets = packet(procedure, *parts)
            first = line.send(octets)
            line.make_file(f"f{procedure}", size=4096)
            self.assertNotEqual(line.send(octets), first, procedure)

    def test_refusals_are_given_again_too(self):
        line = Line()
        octets = packet(15, TOP, text("d"))
        self.assertEqual(to_words(line.send(octets))[6:], [2])
        line.make_folder("d")
        self.assertEqual(to_words(line.send(octets))[6:], [2])
        self.assertIsNotNone(line.look(2))

    def test_just_the_same_bytes(self):
        line = Line()
        line.send(packet(14, TOP, text("d"), wanted()))
        for other in (
            packet(14, TOP, text("d"), wanted(), number=10),
            packet(14, TOP, text("d", 1), wanted()),
            packet(14, TOP, text("d"), wanted(), other=words(0) + text("x")),
            packet(14, TOP, text("d"), wanted(), caller=who(0, 7)),
        ):
            self.assertEqual(to_words(line.send(other))[6:], [17])

    def test_sixteen_calls(self):
        for between, given in ((14, True), (15, True), (16, False), (17, False)):
            line = Line()
            octets = packet(14, TOP, text("d"), wanted())
            first = line.send(octets)
            fill(line, between)
            self.assertEqual(line.send(octets) == first, given, between)

    def test_run_anew_after_sixteen(self):
        line = Line()
        octets = packet(14, TOP, text("d"), wanted())
        line.send(octets)
        fill(line, 16)
        self.assertEqual(to_words(line.send(octets))[6:], [17])
        line.call(15, TOP, text("d"))
        self.assertEqual(to_words(line.send(octets))[6:], [17])

    def test_a_call_answered_so_is_not_counted(self):
        line = Line()
        octets = packet(14, TOP, text("d"), wanted())
        first = line.send(octets)
        fill(line, 15)
        for turn in range(20):
            fill(line, 1, turn % 15)
        self.assertEqual(line.send(octets), first)

    def test_being_given_again_does_not_make_it_newer(self):
        line = Line()
        octets = packet(14, TOP, text("d"), wanted())
        first = line.send(octets)
        fill(line, 10)
        self.assertEqual(line.send(octets), first)
        fill(line, 6, 10)
        self.assertEqual(to_words(line.send(octets))[6:], [17])

    def test_calls_of_other_procedures_and_wrong_ones_are_not_counted(self):
        line = Line()
        octets = packet(14, TOP, text("d"), wanted())
        first = line.send(octets)
        for turn in range(20):
            for procedure, parts in (
                (0, ()), (1, (TOP,)), (3, ()), (4, (TOP, text("d"))), (5, (TOP,)), (6, (TOP, words(0, 0, 0))), (7, ()),
                (16, (TOP, words(0, 0))), (17, (TOP,)), (18, ()), (14, (TOP, text("d"))),
            ):
                line.add(packet(procedure, *parts, number=turn + 50))
        self.assertEqual(line.send(octets), first)

    def test_refused_calls_are_counted(self):
        line = Line()
        octets = packet(14, TOP, text("d"), wanted())
        line.send(octets)
        for turn in range(16):
            line.add(packet(10, handle(77), text("x"), number=turn + 50))
        self.assertEqual(to_words(line.send(octets))[6:], [17])


if __name__ == "__main__":
    unittest.main()
