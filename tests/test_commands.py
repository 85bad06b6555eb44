"""[95], [97], [98]: names, and which strings are commands and deeds by their words alone."""

import unittest

from fromplaces.commands import is_command, is_deed, is_name
from fromplaces.ratios import Ratio
from support import NO_KIND, Case

# Deeds and other commands, one of each word, with what stands behind the word.
DEEDS = {
    "poly": "f 0,1/2,-3", "makers": "m f g", "sum": "h f g", "less": "h f g", "times": "h f g", "put": "h f g", "slope": "h f",
    "left": "h m f", "inner": "h m", "clock": "h m", "room": "r c f g", "roomof": "r m c", "joined": "r s q", "shared": "r s q",
    "led": "r s c", "ring": "h r", "add": "m f", "take": "m 0", "change": "f 12 -1/2", "drop": "f", "forget": "k",
}
CLAIMS = {
    "made": "m f", "kept": "m f", "all": "m", "tied": "m", "within": "m n", "beyond": "m n", "joint": "m 1 -1/2", "apart": "m 0 3", "met": "m 3",
    "gap": "m 19",
}
OTHERS = {
    "undo": "", "redo": "", "state": "k", "states": "", "claimed": "k", "names": "", "show": "f", "degree": "f", "worth": "f 1/2",
    "base": "m", "counts": "m", "common": "m", "gaps": "m", "even": "m", "meets": "m -1", "weight": "m 0", "stop": "m 5/3", "ties": "r", "size": "r",
    "heads": "r", "holds": "r f", "same": "f g",
}
NO_NAMES = ["", "A", "Ab", "aB", "1", "1a", "9", "a_b", "a-b", "a b", " a", "a ", "a\n", "\n", "abcdefghi", "a.b", "-", "a,b", "a/b", "a'", "abcdefg_"]


def deeds():
    return [f"{word} {rest}" for word, rest in DEEDS.items()] + [f"claim k {word} {rest}" for word, rest in CLAIMS.items()]


def others():
    return [f"{word} {rest}" if rest else word for word, rest in OTHERS.items()]


class Names(Case):

    def test_names(self):
        for value in ["a", "z", "a1", "abcdefgh", "a1234567", "z9", "poly", "undo", "claim", "true", "x0"]:
            self.assertIs(is_name(value), True)
            self.assertIs(is_name(value=value), True)
        for value in NO_NAMES + NO_KIND + [5, Ratio(1), [], ["a"], ("a",), b"a"]:
            if value != "abc":
                self.assertIs(is_name(value), False, value)


class Commands(Case):

    def yes(self, command, deed):
        self.assertIs(is_command(command), True, command)
        self.assertIs(is_deed(command), deed, command)
        self.assertIs(is_command(value=command), True)
        self.assertIs(is_deed(value=command), deed)

    def no(self, command):
        self.assertIs(is_command(command), False, command)
        self.assertIs(is_deed(command), False, command)

    def test_each_word(self):
        for command in deeds():
            self.yes(command, True)
        for command in others():
            self.yes(command, False)

    def test_any_value(self):
        for value in NO_KIND + [5, Ratio(1), [], ["undo"], ("undo",), b"undo", "", " ", "\n", "Undo", "UNDO", "x", "help", "made m f", "claim", "claim k"]:
            self.no(value)

    def test_words_more_and_less(self):
        for command in deeds() + others():
            words = command.split(" ")
            for at in range(len(words)):
                fewer = " ".join(words[:at] + words[at + 1:])
                # Lists of one to four names stay such with one fewer; nothing else does.
                if not (words[0] in ("makers", "room") and at > 0):
                    self.no(fewer)
            if words[0] not in ("makers", "room"):
                self.no(command + " f")
                self.no(command + " 1")
            for changed in [
                command + " ", " " + command, command + "\n", "\n" + command, command.replace(" ", "  ", 1), command.upper(), command + " -", command + ",",
                command.replace(" ", "\n", 1), command + "\t", "x" + command, command.replace(" ", " \n", 1),
            ]:
                if changed != command:
                    self.no(changed)

    def test_names_of_commands(self):
        for word, rest in [*DEEDS.items(), *OTHERS.items()]:
            parts = rest.split(" ") if rest else []
            for at, part in enumerate(parts):
                if part.isalpha():
                    for name in NO_NAMES:
                        if name != "a b" or word not in ("makers", "room"):
                            self.no(" ".join([word, *parts[:at], name, *parts[at + 1:]]))
                    for name in ["abcdefgh", "a1234567", "undo"]:
                        self.yes(" ".join([word, *parts[:at], name, *parts[at + 1:]]), word in DEEDS)
        for name in NO_NAMES:
            for word, rest in CLAIMS.items():
                self.no(f"claim {name} {word} {rest}")
                self.no(f"claim k {word} {rest.replace('m', name, 1)}")

    def test_dots(self):
        for many in range(7):
            names = " ".join("abcdef"[:many])
            for start in ["makers m", "room r c"]:
                command = f"{start} {names}" if many else start
                if 1 <= many <= 4:
                    self.yes(command, True)
                else:
                    self.no(command)
        self.yes("makers m f f f f", True)
        self.yes("room r c c", True)

    def test_polys(self):
        for word in [
            "-", "0", "1", "-1", "0,0,1", "1,0", "0,0,0", ",".join(["1"] * 13), ",".join(["-999999/999998"] * 13), "1/2", "0,-1/3", "999999", "-1/999999",
            "1/2,0",
        ]:
            self.yes(f"poly f {word}", True)
        for word in [
            "", ",", "1,", ",1", "1,,2", "--", "-,1", "1,-", ",".join(["1"] * 14), ",".join(["0"] * 14), "1000000", "-1000000", "1/1000000", "1000001/2", "01", "1,01",
            "2/4", "-0", "0,-0", "1/1", "+1", "1;2", "a", "1.5", "1/0", "0/2", "1e2", "[1]", "1 ", "1, 1", "0000001",
        ]:
            self.no(f"poly f {word}")

    def test_numbers(self):
        for word in ["0", "-1", "999999", "-999999", "1/2", "-999998/999999", "1/999999", "12/35"]:
            for command in [f"change f 3 {word}", f"claim k joint m {word} 1", f"claim k apart m 1 {word}", f"worth f {word}", f"meets m {word}", f"weight m {word}", f"stop m {word}"]:
                self.yes(command, command[:5] in ("chang", "claim"))
        for word in ["", "-0", "01", "-01", "1000000", "-1000000", "1/1000000", "1000000/3", "2/4", "3/1", "0/7", "1/0", "1/-2", "+1", "a", "-", "1,2", "1/2/3", "1.0", "9" * 40]:
            for command in [f"change f 3 {word}", f"claim k joint m {word} 1", f"claim k apart m 1 {word}", f"worth f {word}", f"meets m {word}", f"weight m {word}", f"stop m {word}"]:
                self.no(command)

    def test_counts(self):
        for word in ["0", "1", "9", "10", "48", "49", "99"]:
            for command in [f"take m {word}", f"change f {word} 1", f"claim k met m {word}", f"claim k gap m {word}"]:
                self.yes(command, True)
        for word in ["", "100", "00", "01", "-1", "-0", "1/2", "a", "1.0", "999", "+1", "2/1", "0001", "9" * 40]:
            for command in [f"take m {word}", f"change f {word} 1", f"claim k met m {word}", f"claim k gap m {word}"]:
                self.no(command)

    def test_claims(self):
        for command in [
            "claim k", "claim made m f", "claim k make m f", "claim k made m", "claim k made f", "claim k made m f g", "claim k all m f", "claim k tied", "claim k joint m 1",
            "claim k joint m 1 2 3", "claim k apart m 1 a", "claim k met m", "claim k gap m a", "claim k within m", "claim k beyond m n o", "claim k made m 1", "claim k true m",
            "claim k Made m f", "claim k  made m f", "claim", "claim k claim m", "claims k all m", "kept m f", "all m", "claim k poly f 1",
        ]:
            self.no(command)
        self.yes("claim made made made made", True)
        self.yes("poly poly 1", True)
        self.yes("same same same", False)


if __name__ == "__main__":
    unittest.main()
