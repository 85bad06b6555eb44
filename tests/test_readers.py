"""[92]: what is written is read again; the wrong line of any other string."""

import random
import time
import unittest

from fromplaces.bases import base_makings
from fromplaces.errors import InvalidText
from fromplaces.ratios import Ratio
from fromplaces.readers import read
from fromplaces.rooms import Room
from fromplaces.texts import written
from support import NO_KIND, Case, ratios, six_digits, small_makers, told_ratios

HALF = Ratio(1, 2)


class Read(Case):

    def test_by_hand(self):
        for text, wanted in [
            ("number 0\n", ("number", Ratio(0))), ("number -17\n", ("number", Ratio(-17))), ("number -3/2\n", ("number", Ratio(-3, 2))),
            ("number 10/7\n", ("number", Ratio(10, 7))), ("poly\n", ("poly", [])), ("poly 0 0 -1/2\n", ("poly", ratios(0, 0, -HALF))),
            ("poly 5\n", ("poly", ratios(5))), ("poly" + " 1" * 49 + "\n", ("poly", ratios(*[1] * 49))),
            ("makers\nmaker 0 1\n", ("makers", [ratios(0, 1)])), ("makers\n" + "maker 0 0 0 0 0 0 0 1/2\n" * 4, ("makers", [ratios(*[0] * 7, HALF)] * 4)),
            ("makers\nmaker 1 -1\nmaker 0 3\n", ("makers", told_ratios([[1, -1], [0, 3]]))),
            ("making\nline\n", ("making", [[]])), ("making\nline\ntimes 1 1 1\nline\n", ("making", [[(1, 1, Ratio(1))], []])),
            ("making\nline\ntimes 4 0 -1/3\ntimes 0 4 0\nline\ntimes 5 5 2\n", ("making", [[(4, 0, Ratio(-1, 3)), (0, 4, Ratio(0))], [(5, 5, Ratio(2))]])),
        ]:
            found = self.unchanged(read, text)
            self.assertEqual(found, wanted)
            self.assertIs(type(found), tuple)
            self.assertEqual(repr(found), repr(wanted))
            self.assertEqual(read(text=text), wanted)
        for text, room in [
            ("clock -1 0 1\nrow 0 1\n", Room([-1, 0, 1], [])), ("clock 1/2 1\nrow 1\n", Room([1, 2], [])),
            ("clock 0 0 0 1\nrow 1 0 0\nrow 0 0 1\n", Room([0, 0, 0, 1], [[0, 0, 1]])),
            ("clock" + " 0" * 20 + " 1\nrow" + " 0" * 19 + " 1\n", Room([0] * 20 + [1], [])),
        ]:
            self.assertEqual(read(text), ("room", room))
            self.assertIs(type(read(text)[1]), Room)

    def test_kinds_within(self):
        sort, making = read("making\nline\ntimes 4 0 1\n")
        self.assertEqual([type(one) for one in (sort, making, making[0], making[0][0], *making[0][0])], [str, list, list, tuple, int, int, Ratio])

    def test_great_numbers(self):
        source = random.Random(910)
        begun = time.monotonic()
        for makers in [[six_digits(source, 5), six_digits(source, 6)], [six_digits(source, 7) for _ in range(4)]]:
            for making in base_makings(makers):
                text = written("making", making)
                self.assertEqual(written(*read(text)), text)
            room = Room(six_digits(source, 20), [makers[0]])
            self.assertEqual(read(written("room", room)), ("room", room))
        self.assertLess(time.monotonic() - begun, 30)


class WrongLine(Case):

    def wrong(self, text, line):
        self.fails(InvalidText, {"line": line}, read, text)
        self.fails(InvalidText, {"line": line}, read, text=text)

    def test_no_string(self):
        for value in [one for one in NO_KIND if not isinstance(one, str)] + [5, HALF, [], ["poly\n"], ("poly\n",), b"poly\n", Room([0, 1], [])]:
            self.wrong(value, 0)

    def test_first_lines(self):
        for text in [
            "", "\n", "number", "poly", "makers", "making", "clock 0 1", "number 1", "makers 1\n", "making \n", " poly\n", "poly \n", "\npoly\n", "x\n",
            "Poly\n", "numbers 1\n", "number\n", "number \n", "number 1 2\n", "number  1\n", "number 1 \n", "row 1\n", "line\n", "maker 0 1\n", "times 0 0 1\n",
            "room\n", "clock\n", "poly 1  2\n", "poly  1\n", " \n", "number\t1\n", "poly,1\n",
        ]:
            self.wrong(text, 1)

    def test_numbers(self):
        for word in [
            "-0", "+1", "01", "00", "-01", "1/1", "2/4", "0/1", "0/5", "1/0", "1/-2", "-1/1", "1/02", "01/2", "1/2/3", "1/", "/2", "-", "--1", "1.5", "1e3",
            "-/2", "a", "1a", "1_0", "-0/3", "3/3", "6/2", "1/+2", " 1", "0x1", "True", "1/ 2", "-2/6",
        ]:
            self.wrong(f"number {word}\n", 1)
            self.wrong(f"poly {word} 1\n", 1)
            self.wrong(f"makers\nmaker 0 1\nmaker {word} 1\n", 3)
            self.wrong(f"making\nline\ntimes 0 0 {word}\n", 3)
            self.wrong(f"clock {word} 0 1\nrow 0 1\n", 1)
            self.wrong(f"clock -1 0 0 1\nrow 1 0 {word}\nrow 0 0 1\n", 2)
        for word in ["", "+1", "01", "00", "-1", "-0", "1/2", "1.0", "a", "1/1", "5", "99999"]:
            self.wrong(f"making\nline\ntimes {word} 0 1\n", 3)
            self.wrong(f"making\nline\ntimes 0 {word} 1\n", 3)

    def test_behind_a_form_that_is_done(self):
        for text in ["number 1\n", "poly\n", "poly 1 2\n"]:
            for more in ["\n", "number 1\n", " ", "x", text, "line\n", "number 1", " \n"]:
                self.wrong(text + more, 2)

    def test_polys(self):
        for text in ["poly 0\n", "poly 1 0\n", "poly 0 0 0\n", "poly" + " 1" * 50 + "\n", "poly" + " 1" * 51 + "\n", "poly" + " 0" * 49 + " 1\n"]:
            self.wrong(text, 1)

    def test_makers(self):
        for text, line in [
            ("makers\n", 2), ("makers\nmaker 0 1", 2), ("makers\n\n", 2), ("makers\nmaker\n", 2), ("makers\nmaker 5\n", 2), ("makers\nmaker 0\n", 2),
            ("makers\nmaker" + " 0" * 8 + " 1\n", 2), ("makers\nmaker 0 1 0\n", 2), ("makers\nmaker 0 1\nmaker 3\n", 3), ("makers\nmaker 0 1\n\n", 3),
            ("makers\n" + "maker 0 1\n" * 5, 6), ("makers\n" + "maker 0 1\n" * 4 + "\n", 6), ("makers\n" + "maker 0 1\n" * 6, 6), ("makers\npoly 0 1\n", 2),
            ("makers\nmaker 0 1 \n", 2), ("makers\n maker 0 1\n", 2), ("makers\nmaker  0 1\n", 2), ("makers\nmakers\n", 2), ("makers\nmaker 0 1\nmaker 0 1", 3),
            ("makers\nmaker 0 1\nmaker 0 1\nx\nmaker 7\n", 4), ("makers\nmaker 0 x\nmaker 7\n", 2), ("makers\n ", 2), ("makers\nmaker 0 1\nmaker", 3),
        ]:
            self.wrong(text, line)

    def test_makings(self):
        line, lines = "line\n", "line\n" * 200
        for text, wrong in [
            ("making\n", 2), ("making\ntimes 0 0 1\n", 2), ("making\ntimes 0 0 1\nline\n", 2), ("making\nline", 2), ("making\n\n", 2), ("making\nline \n", 2),
            ("making\nline 1\n", 2), ("making\nlines\n", 2), ("making\nline\ntimes 0 0\n", 3), ("making\nline\ntimes 0 0 1 1\n", 3), ("making\nline\ntimes\n", 3),
            ("making\nline\ntimes 5 0 1\n", 3), ("making\nline\ntimes 0 5 1\n", 3), ("making\nline\nline\ntimes 6 0 1\n", 4), ("making\nline\nline\ntimes 0 6 1\n", 4),
            ("making\nline\nline\ntimes 5 5 1\ntimes 0 6 1\n", 5), ("making\n" + line + "times 0 0 1\n" * 61, 63), ("making\n" + line + "times 0 0 1\n" * 60 + "times 0 0 1", 63),
            ("making\n" + line + "times 0 0 1\n" * 60 + line + "times 0 0 1\n" * 61, 124), ("making\n" + lines + line, 202), ("making\n" + lines + "line", 202),
            ("making\n" + lines + "times 204 0 1\n", 202), ("making\n" + line + "times 0 0 1\n" + "\n", 4), ("making\nline\ntimes 0 0 1", 3), ("making\nmaking\n", 2),
            ("making\nline\ntimes 0  0 1\n", 3), ("making\nline\ntime 0 0 1\n", 3), ("making\nline\ntimes 0 0 1 \n", 3), ("making\nline\nnumber 1\n", 3),
        ]:
            self.wrong(text, wrong)
        self.assertEqual(len(read("making\n" + lines)[1]), 200)
        self.assertEqual(read("making\n" + lines + "times 203 203 1\n")[1][-1], [(203, 203, Ratio(1))])
        self.assertEqual(len(read("making\n" + line + "times 0 0 1\n" * 60 + line)[1][0]), 60)

    def test_rooms(self):
        for text, line in [
            ("clock 1\n", 1), ("clock 0\n", 1), ("clock 5 2\nrow 1\n", 1), ("clock 1 -1\nrow 1\n", 1), ("clock 1 0\nrow 1\n", 1), ("clock 1/2\nrow 1\n", 1),
            ("clock" + " 0" * 21 + " 1\n", 1), ("clock -1 0 1\n", 2), ("clock -1 0 1\nrow 0 1", 2), ("clock -1 0 1\n\n", 2), ("clock -1 0 1\nrow\n", 2),
            ("clock -1 0 1\nrow 1\n", 2), ("clock -1 0 1\nrow 0 0 1\n", 2), ("clock -1 0 1\nrow 0 0\n", 2), ("clock -1 0 1\nrow 0 2\n", 2), ("clock -1 0 1\nrow -1 0\n", 2),
            ("clock -1 0 1\nrow 0 1\nrow 1 0\n", 3), ("clock -1 0 1\nrow 0 1\nrow 0 1\n", 3), ("clock -1 0 1\nrow 1 0\nrow 0 1\nrow 0 1\n", 4),
            ("clock -1 0 1\nrow 1 0\nrow 0 1\n\n", 4), ("clock -1 0 1\nrow 1 5\nrow 0 1\n", 3), ("clock 0 0 0 1\nrow 1 0 2\nrow 0 1 0\nrow 0 0 1\n", 4),
            ("clock -1 0 1\nmaker 0 1\n", 2), ("clock -1 0 1\nclock -1 0 1\n", 2), ("clock -1 0 1\nrow 0 1\nrow", 3), ("clock -1 0 1\nrow 0 1 \n", 2),
            # In steps, but not those of a room: that is looked at behind the last line alone.
            ("clock -1 0 1\nrow 1 5\n", 3), ("clock -1 0 1\nrow 1 0\n", 3), ("clock 1 0 0 1\nrow 1 0 0\nrow 0 0 1\n", 4), ("clock 1 0 0 1\nrow 0 1 0\nrow 0 0 1\n", 4),
            ("clock 1 0 0 1\nrow 0 1 0\n", 3), ("clock 1 0 0 1\nrow 1 0 7\nrow 0 1 0\n", 4), ("clock 1 0 0 1\nrow 0 1 0\nrow 0 0 1", 3),
        ]:
            self.wrong(text, line)
        self.assertEqual(read("clock -1 0 1\nrow 1 0\nrow 0 1\n")[1].is_all, True)

    def test_a_last_line_without_a_line_feed(self):
        for text in ["number 1/2\n", "makers\nmaker 0 1\n", "making\nline\ntimes 0 0 1\n", "clock -1 0 1\nrow 0 1\n", "poly 1\n"]:
            self.wrong(text[:-1], text.count("\n"))
            self.wrong(text + "x", text.count("\n") + 1)

    def test_changed_texts(self):
        # Whatever the string, the lines ahead of the wrong one are right, as far as they go.
        source = random.Random(911)
        texts = ["number -3/2\n", "poly 1 0 1/2\n", "clock 0 0 0 1\nrow 1 0 0\nrow 0 0 1\n", "clock -1 0 1\nrow 0 1\n"]
        for _ in range(12):
            makers = small_makers(source, 4)
            texts += [written("makers", makers), written("making", base_makings(makers)[0]), written("room", Room([1, -2, 0, 1], makers))]
        read_ones = 0
        for _ in range(3000):
            text = source.choice(texts)
            for _ in range(source.choice([1, 1, 1, 2])):
                text = changed(source, text, texts)
            lines = text.split("\n")
            try:
                found = read(text)
            except InvalidText as error:
                self.assertIs(type(error.line), int)
                self.assertTrue(1 <= error.line <= len(lines))
                ahead = "".join([line + "\n" for line in lines[:error.line - 1]])
                try:
                    read(ahead)
                except InvalidText as other:
                    self.assertEqual(other.line, error.line)
                self.fails(InvalidText, {"line": error.line}, read, ahead + "\n")
            else:
                read_ones += 1
                self.assertEqual(written(*found), text)
        self.assertGreater(read_ones, 100)


def changed(source, text, texts):
    """The text with a sign or a line put in, left out or changed, or with another one behind it."""
    at = source.randint(0, max(len(text) - 1, 0))
    lines = text.split("\n")
    line = source.randint(0, len(lines) - 1)
    return source.choice([
        text[:at] + text[at + 1:], text[:at] + source.choice("0123456789 -/\nax") + text[at:], text[:at] + source.choice("01 -/\n") + text[at + 1:],
        "\n".join(lines[:line] + lines[line + 1:]), "\n".join(lines[:line] + [lines[line]] + lines[line:]), text + source.choice(texts),
        text[:at], "\n".join(lines[:line] + [lines[line].replace("1", "2")] + lines[line + 1:]), text.replace("0", "1", 1),
    ])


if __name__ == "__main__":
    unittest.main()
