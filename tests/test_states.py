"""[96], [97]: states, how deeds change them, and deeds taken back and done again."""

import unittest

from fromplaces.desk import Desk
from fromplaces.errors import InvalidCommand, NothingToRedo, NothingToUndo, UnknownName
from fromplaces.ratios import Ratio
from desks import START, DeskCase, all_of, redone_lines, started
from support import ratios

# Each deed, one behind the other, on a desk that is started.
EACH = [
    "poly h 1,2", "drop h", "makers v f t", "drop v", "sum h f g", "drop h", "less h f g", "drop h", "times h f g", "drop h", "put h f g", "drop h", "slope h f",
    "drop h", "left h m t", "drop h", "inner h m", "drop h", "clock h m", "drop h", "room s c f", "drop s", "roomof s m c", "drop s", "joined s r q", "drop s",
    "shared s r q", "drop s", "led s r c", "drop s", "ring h r", "drop h", "add m t", "take m 2", "change f 1 1/2", "drop f", "poly f 0,0,1", "claim j joint m 1 -1",
    "claim p apart m 1 2", "claim v met m 2", "claim u gap m 1", "claim y kept m t", "claim z tied m", "claim x beyond n m", "forget k", "claim k all n", "drop m", "forget w",
]


class States(DeskCase):

    def test_true_and_false(self):
        desk = started()
        self.says(
            desk, ("states", "a false, k true, w true"), ("add m t", "a true"), ("take m 0", "-"), ("take m 0", "-"), ("states", "a true, k true, w true"),
            ("add m f", "-"), ("change f 1 3", "-"), ("change f 24 1", "-"), ("states", "a true, k true, w true"),
        )

    def test_several_at_once(self):
        desk = started()
        desk.do_all("claim z tied m", "claim b beyond n m", "claim y kept m t", "claim d made m t")
        self.says(
            desk, ("states", "a false, b true, d false, k true, w true, y true, z true"), ("add m t", "a true, b false, d true, y false, z false"),
            ("take m 2", "a false, b true, d false, y true, z true"), ("drop m", "a gone, b gone, d gone, k gone, w gone, y gone, z gone"),
            ("makers m t", "a true, b false, d true, k true, w true, y false, z false"), ("drop n", "b gone, w gone"), ("drop t", "d gone, y gone"),
        )

    def test_gone_while_a_name_is_dropped(self):
        desk = started()
        self.says(
            desk, ("drop f", "k gone"), ("state k", "gone"), ("poly f 0,0,0,0,1", "k true"), ("drop f", "k gone"), ("poly f 0,1", "k false"), ("drop m", "a gone, k gone, w gone"),
            ("drop f", "-"), ("makers m g", "a false, w true"), ("poly f -", "k true"),
        )

    def test_gone_while_a_thing_of_another_kind_is_kept(self):
        desk = started()
        self.says(
            desk, ("drop f", "k gone"), ("makers f g", "-"), ("state k", "gone"), ("drop f", "-"), ("room f c g", "-"), ("state k", "gone"), ("drop f", "-"), ("poly f 0,0,1", "k true"),
            ("drop n", "w gone"), ("poly n 0,1", "-"), ("drop n", "-"), ("makers n f", "w false"), ("drop m", "a gone, k gone, w gone"), ("room m c f", "-"), ("states", "a gone, k gone, w gone"),
        )
        self.assertEqual([desk.claim_of(label) for label in "akw"], [None, None, None])

    def test_gone_while_it_is_no_claim(self):
        desk = started()
        self.says(
            desk, ("change f 24 1", "-"), ("change f 25 1", "k gone"), ("change f 26 5", "-"), ("change f 25 0", "-"), ("change f 26 0", "k true"), ("change f 1 1", "k false"),
            ("change f 48 1", "k gone"), ("change f 1 0", "-"), ("change f 48 0", "k true"),
        )

    def test_labels_noted_and_forgotten(self):
        desk = started()
        self.says(
            desk, ("claim b all n", "b true"), ("claim c1 all m", "c1 false"), ("forget b", "-"), ("forget k", "-"), ("states", "a false, c1 false, w true"), ("claim k kept m f", "k false"),
            ("claim b joint m 1 -1", "b true"), ("drop m", "a gone, b gone, c1 gone, k gone, w gone"), ("forget k", "-"), ("forget a", "-"), ("forget b", "-"), ("forget c1", "-"), ("forget w", "-"),
            ("states", "-"),
        )

    def test_each_word_both_ways(self):
        desk = started()
        for command, answer in [
            ("claim d made m t", "d false"), ("claim e kept m t", "e true"), ("claim g all n", "g true"), ("claim h tied n", "h false"), ("claim i within n m", "i false"),
            ("claim j beyond n m", "j true"), ("claim l joint m 1 2", "l false"), ("claim o apart m 1 2", "o true"), ("claim p met m 1", "p false"),
        ]:
            self.says(desk, (command, answer))
        self.says(desk, ("add m t", "a true, d true, e false, i true, j false, p true"), ("add n f", "-"), ("forget d", "-"), ("claim d gap m 1", "d false"))

    def test_sorted_labels(self):
        desk = started()
        desk.do_all("claim b2 all m", "claim b10 all m", "claim ab all m", "claim z all m")
        self.says(desk, ("add m t", "a true, ab true, b10 true, b2 true, z true"))


class UndoAndRedo(DeskCase):

    def test_over_each_deed(self):
        desk = started()
        seen = [all_but_redo(desk)]
        for command in EACH:
            desk.do(command)
            seen.append(all_but_redo(desk))
        self.assertEqual(len(desk), len(START) + len(EACH))
        for at in range(len(EACH) - 1, -1, -1):
            self.assertEqual(desk.do("undo"), EACH[at])
            self.assertEqual(all_but_redo(desk), seen[at])
            self.assertEqual(redone_lines(desk), EACH[at:])
        for at, command in enumerate(EACH):
            self.assertEqual(desk.do("redo"), command)
            self.assertEqual(all_but_redo(desk), seen[at + 1])
        self.refuses(desk, NothingToRedo, {}, "redo")
        for command in (START + EACH)[::-1]:
            self.assertEqual(desk.do("undo"), command)
        self.assertEqual([desk.names, desk.labels, len(desk), desk.lines(), desk.do("states")], [[], [], 0, [], "-"])
        self.refuses(desk, NothingToUndo, {}, "undo")

    def test_what_takes_away_what_could_be_done_again(self):
        desk = started()
        desk.do_all("add m t", "change f 0 1", "undo", "undo")
        self.assertEqual(redone_lines(desk), ["add m t", "change f 0 1"])
        for question in ["states", "names", "show m", "gaps m", "state k", "claimed k", "same f f", "ties r"]:
            desk.do(question)
        for wrong in ["poly f 1", "drop x", "undo undo", "forget x", "take m 9", "nonsense"]:
            with self.assertRaises((InvalidCommand, UnknownName, RuntimeError, ValueError, LookupError)):
                desk.do(wrong)
        desk.attach("k", [[(1, 0, 1)]])
        self.assertEqual(redone_lines(desk), ["add m t", "change f 0 1"])
        self.says(desk, ("redo", "add m t"))
        self.assertEqual(redone_lines(desk), ["change f 0 1"])
        self.says(desk, ("forget a", "-"))
        self.assertEqual(redone_lines(desk), [])
        self.refuses(desk, NothingToRedo, {}, "redo")
        # Also a deed that changes nothing is a deed.
        self.says(desk, ("undo", "forget a"), ("change f 2 1", "-"))
        self.refuses(desk, NothingToRedo, {}, "redo")
        self.says(desk, ("undo", "change f 2 1"), ("undo", "add m t"), ("show m", "0,0,1; 0,-1,0,1"))

    def test_they_are_no_deeds(self):
        desk = started()
        desk.do("undo")
        self.assertEqual([len(desk), desk.lines()], [len(START) - 1, START[:-1]])
        desk.do("redo")
        self.assertEqual([len(desk), desk.lines()], [len(START), START])

    def test_things_are_as_they_were(self):
        desk = Desk()
        desk.do_all("poly f 1/2", "change f 3 -1", "drop f", "undo")
        self.assertEqual(desk["f"], ratios(Ratio(1, 2), 0, 0, -1))
        desk.do("undo")
        self.assertEqual(desk["f"], ratios(Ratio(1, 2)))


def all_but_redo(desk):
    """All that it tells, but for what can be done again."""
    other = Desk.again(desk.lines())
    told = all_of(other)
    assert [desk.names, desk.labels, desk.do("states")] == [other.names, other.labels, other.do("states")]
    assert [desk[name] for name in desk.names] == [other[name] for name in other.names]
    return told


if __name__ == "__main__":
    unittest.main()
