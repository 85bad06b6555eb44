"""[98], the desk: commands done together or for a trial, copies, lines, desks that do deeds again."""

import unittest

from fromplaces.desk import Desk, Trial, tried
from fromplaces.errors import (
    CommandFailed, InvalidCommand, InvalidLines, InvalidMakers, LabelTaken, NameTaken, NothingToRedo, NothingToUndo, TooMany, UnknownLabel, UnknownName,
)
from fromplaces.ratios import Ratio
from fromplaces.rooms import Room
from desks import START, DeskCase, all_of, started
from support import NO_KIND


class DoAll(DeskCase):

    def failed(self, function, position, cause, *parts):
        with self.assertRaises(CommandFailed) as held:
            function(*parts)
        self.assertEqual(vars(held.exception), {"position": position})
        self.assertIs(type(held.exception.position), int)
        self.assertIs(type(held.exception.__cause__), cause)

    def test_all(self):
        desk = Desk()
        self.assertEqual(desk.do_all(*START), ["-"] * 8 + ["k true", "a false", "w true"])
        self.assertEqual(desk.do_all(), [])
        self.assertEqual(desk.do_all("undo", "redo", "states"), [START[-1], START[-1], "a false, k true, w true"])
        self.assertEqual(desk("names"), desk.do("names"))
        self.assertEqual(desk(command="states"), "a false, k true, w true")
        self.assertEqual(desk.lines(), START)

    def test_none(self):
        desk = started()
        desk.do_all("add m t", "undo")
        before = all_of(desk)
        for commands, position, cause in [
            (["poly x 1", "poly y 2", "poly x 3"], 2, NameTaken), (["nonsense"], 0, InvalidCommand), (["drop f", "drop f"], 1, UnknownName), (["undo"] * 12, 11, NothingToUndo),
            (["redo", "redo"], 1, NothingToRedo), (["forget k", "state k"], 1, UnknownLabel), (["poly x 3", "makers y x"], 1, InvalidMakers), (["drop f", "drop g", None], 2, InvalidCommand),
            (["undo", "undo", "poly x 1", "claim k all m"], 3, LabelTaken), (["names", True], 1, InvalidCommand), ([*[f"poly p{n} 1" for n in range(5)]], 4, TooMany),
        ]:
            self.failed(desk.do_all, position, cause, *commands)
            self.assertEqual(all_of(desk), before)
            self.failed(desk.attempt, position, cause, *commands)
            self.assertEqual(all_of(desk), before)

    def test_attempt(self):
        desk = started()
        desk.do_all("add m t", "undo")
        before = all_of(desk)
        self.assertEqual(desk.attempt("add m t", "states", "undo", "undo", "poly x 1", "names"), [
            "a true", "a true, k true, w true", "add m t", "claim w within m n", "-", "c f g m n q r t x"])
        self.assertEqual(all_of(desk), before)
        self.assertEqual(desk.attempt(), [])
        self.assertEqual(desk.attempt("redo"), ["add m t"])
        self.assertEqual(all_of(desk), before)


class Trials(DeskCase):

    def test_block(self):
        desk = started()
        desk.attach("k", [[(1, 0, 1)]])
        desk.do_all("add m t", "undo")
        before = all_of(desk)
        with Trial(desk) as held:
            self.assertIs(held, desk)
            held.do_all("add m t", "drop f", "forget a", "undo", "undo", "undo", "undo")
            held.attach("k", [[(0, 1, Ratio(1))]])
            held.do("change f 0 1")
            self.assertNotEqual(all_of(desk), before)
        self.assertEqual(all_of(desk), before)
        with Trial(desk=desk) as held:
            while len(held) > 0:
                held.do("undo")
            self.assertEqual(desk.names, [])
        self.assertEqual(all_of(desk), before)

    def test_errors_go_on(self):
        desk = started()
        before = all_of(desk)
        for error in [KeyError("x"), UnknownName("f"), ZeroDivisionError()]:
            with self.assertRaises(type(error)) as caught:
                with Trial(desk) as held:
                    held.do_all("drop f", "undo", "undo", "drop g")
                    raise error
            self.assertIs(caught.exception, error)
            self.assertEqual(all_of(desk), before)
        with self.assertRaises(NameTaken):
            with Trial(desk):
                desk.do("drop m")
                desk.do("poly g 1")
        self.assertEqual(all_of(desk), before)

    def test_one_block_behind_the_other(self):
        desk = started()
        trial = Trial(desk)
        desk.do("add m t")
        before = all_of(desk)
        for command in ["drop f", "undo", "poly x 1"]:
            with trial as held:
                held.do(command)
                self.assertNotEqual(all_of(desk), before)
            # It is as it was ahead of the block, not as it was where the Trial was made.
            self.assertEqual(all_of(desk), before)
        desk.do("drop f")
        later = all_of(desk)
        with trial:
            desk.do("undo")
        self.assertEqual(all_of(desk), later)

    def test_blocks_within_blocks(self):
        desk = started()
        before = all_of(desk)
        with Trial(desk):
            desk.do("drop f")
            inner = all_of(desk)
            with Trial(desk):
                desk.do_all("drop g", "undo", "undo")
            self.assertEqual(all_of(desk), inner)
        self.assertEqual(all_of(desk), before)

    def test_tried(self):
        desk = started()
        before = all_of(desk)
        self.assertEqual(tried(desk, lambda held: held.do_all("add m t", "states")), ["a true", "a true, k true, w true"])
        self.assertEqual(all_of(desk), before)
        self.assertIs(tried(action=lambda held: held is desk, desk=desk), True)
        self.assertIsNone(tried(desk, lambda held: None))

        def fail(held):
            held.do("drop m")
            raise KeyError(held.do("states"))

        with self.assertRaises(KeyError) as caught:
            tried(desk, fail)
        self.assertEqual(caught.exception.args, ("a gone, k gone, w gone",))
        self.assertEqual(all_of(desk), before)


class Copies(DeskCase):

    def test_goes_on_by_itself(self):
        desk = started()
        desk.attach("k", [[(1, 0, 1)]])
        desk.do_all("add m t", "drop f", "undo", "undo")
        other = desk.copy()
        self.assertIs(type(other), Desk)
        before = all_of(desk)
        self.assertEqual(all_of(other), before)
        self.says(other, ("redo", "add m t"), ("redo", "drop f"), ("states", "a true, k gone, w true"))
        self.assertEqual(all_of(desk), before)
        behind = all_of(other)
        self.says(desk, ("drop g", "-"), ("undo", "drop g"), ("undo", START[-1]), ("undo", START[-2]))
        self.assertEqual(all_of(other), behind)
        other.do("undo")
        other.attach("k", [[(0, 1, 1), (0, 0, 0)]])
        self.assertIs(desk.fits("k"), True)

    def test_of_nothing(self):
        self.assertEqual(all_of(Desk().copy()), all_of(Desk()))


class Again(DeskCase):

    def test_lines(self):
        desk = started()
        desk.do_all("names", "add m t", "drop f", "undo", "state a")
        found = self.unchanged(desk.lines)
        self.assertEqual(found, START + ["add m t"])
        for lines in [found, tuple(found)]:
            other = self.unchanged_again(lines)
            self.assertEqual(all_of(other), all_of(Desk.again(lines=found)))
            self.assertEqual([other.lines(), len(other), other.do("states")], [found, len(found), desk.do("states")])
            self.refuses(other, NothingToRedo, {}, "redo")
        self.assertEqual([Desk.again([]).lines(), Desk.again(()).names], [[], []])

    def unchanged_again(self, lines):
        before = repr(lines)
        found = Desk.again(lines)
        self.assertEqual(repr(lines), before)
        return found

    def test_wrong_lines(self):
        for value in NO_KIND + [5, Ratio(1), "poly f 1", Desk(), Room([0, 1], [])]:
            self.fails(InvalidLines, {"position": None}, Desk.again, value)
            self.fails(InvalidLines, {"position": None}, Desk.again, lines=value)
        for lines, position in [
            (["poly f 1", "names"], 1), (["undo"], 0), (["poly f 1", "poly g 1", "redo"], 2), (["poly f 1", "poly f 1", "x", None], 2), ([None], 0), (["poly f 1", 5], 1), ([["poly f 1"]], 0),
            (("poly f 1", "states"), 1), (["drop x", "show x"], 1), ([True], 0), (["poly f 1\n"], 0),
        ]:
            self.fails(InvalidLines, {"position": position}, Desk.again, lines)

    def test_failing_lines(self):
        for lines, position, cause in [
            (["drop x"], 0, UnknownName), (["poly f 1", "poly f 2"], 1, NameTaken), (["poly f 3", "makers m f"], 1, InvalidMakers), ([f"poly p{n} 1" for n in range(13)], 12, TooMany),
            (["poly f 1"] + ["change f 0 1"] * 300, 300, TooMany),
        ]:
            with self.assertRaises(CommandFailed) as held:
                Desk.again(lines)
            self.assertEqual(held.exception.position, position)
            self.assertIs(type(held.exception.__cause__), cause)


if __name__ == "__main__":
    unittest.main()
