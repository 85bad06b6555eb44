"""The desk's papers: attach and fits."""

import unittest

from fromplaces.claims import contrary, paper_of
from fromplaces.desk import Desk, Trial
from fromplaces.errors import InvalidPaper, UnknownLabel
from fromplaces.ratios import Ratio
from fromplaces.rooms import Room
from desks import START, DeskCase, all_of, redone_lines, started
from support import NO_KIND

CROSSED = Room([-1, 0, 1], [])
# Makings of f, of t by makers f, g and t, and a room that keeps t apart from f and g.
OF_F, OF_T = [[(1, 0, 1)]], [[(3, 0, 1)]]


class Attach(DeskCase):

    def test_of_the_claim_and_of_its_contrary(self):
        desk = started()
        self.assertIs(desk.fits("k"), False)
        self.assertIsNone(desk.attach("k", OF_F))
        self.assertIsNone(desk.attach("a", CROSSED))
        self.assertEqual([desk.fits("k"), desk.fits("a"), desk.fits(label="w")], [True, True, False])
        cubes = [[(1, 1, 1)], [(1, 2, 1), (0, 1, -1)]]
        self.assertIsNone(desk.attach(label="w", paper=[[[(1, 1, 1)]], cubes]))
        self.assertIs(desk.fits("w"), True)
        self.assertIs(type(desk.fits("k")), bool)

    def test_it_is_no_deed(self):
        desk = started()
        desk.do_all("add m t", "undo")
        desk.attach("k", OF_F)
        self.assertEqual([len(desk), desk.lines(), redone_lines(desk)], [len(START), START, ["add m t"]])
        self.says(desk, ("undo", START[-1]), ("redo", START[-1]))
        self.assertIs(desk.fits("k"), True)

    def test_all_words(self):
        desk = started()
        for command in [
            "claim d made m t", "claim e kept m t", "claim g all n", "claim h tied n", "claim i within n m", "claim j beyond n m", "claim l joint m 1 2", "claim o apart m 1 2", "claim p met m 1",
        ]:
            desk.do(command)
        desk.do("forget w")
        for label in desk.labels:
            claim = desk.claim_of(label)
            paper = paper_of(claim)
            if paper is None:
                paper = paper_of(contrary(claim))
            self.assertIs(desk.fits(label), False)
            desk.attach(label, paper)
            self.assertIs(desk.fits(label), True)

    def test_wrong_labels(self):
        desk = started()
        for value in NO_KIND + [5, Ratio(1), [], ["k"], ("k",), "x", "f", "m", "K", "k ", b"k"]:
            self.fails(UnknownLabel, {"value": value}, desk.attach, value, None)
            self.fails(UnknownLabel, {"value": value}, desk.attach, paper=OF_F, label=value)
            self.fails(UnknownLabel, {"value": value}, desk.fits, value)
            self.fails(UnknownLabel, {"value": value}, desk.fits, label=value)
        desk.attach("k", OF_F)
        desk.do("forget k")
        self.fails(UnknownLabel, {"value": "k"}, desk.attach, "k", OF_F)
        self.fails(UnknownLabel, {"value": "k"}, desk.fits, "k")

    def test_wrong_papers(self):
        desk = started()
        desk.do("claim j joint m 1 2")
        desk.attach("k", OF_F)
        before = all_of(desk)
        for label, papers in [
            ("k", [[], [[]], [[(2, 0, 1)]], [[(True, 0, 1)]], CROSSED, 1, (0, CROSSED), [OF_F], [[[1, 0, 1]]]]), ("a", [OF_F, OF_T, Room([-4, 0, 1], []), 0, [CROSSED], (0, CROSSED)]),
            ("j", [CROSSED, OF_F, 2, -1, True, [0]]), ("w", [OF_F, (0, CROSSED), [OF_F], CROSSED]),
        ]:
            for paper in papers + NO_KIND:
                self.fails(InvalidPaper, {"value": paper}, desk.attach, label, paper)
                self.fails(InvalidPaper, {"value": paper}, desk.attach, paper=paper, label=label)
                self.assertEqual(all_of(desk), before)
        desk.attach("j", 0)
        self.assertIs(desk.fits("j"), True)

    def test_while_gone(self):
        desk = started()
        desk.attach("k", OF_F)
        desk.do("drop f")
        self.fails(InvalidPaper, {"value": OF_F}, desk.attach, "k", OF_F)
        self.assertIs(desk.fits("k"), False)
        self.says(desk, ("undo", "drop f"))
        self.assertIs(desk.fits("k"), True)
        desk.do("change f 25 1")
        self.fails(InvalidPaper, {"value": OF_F}, desk.attach, "k", OF_F)
        self.assertIs(desk.fits("k"), False)
        self.says(desk, ("change f 25 0", "k true"))
        self.assertIs(desk.fits("k"), True)

    def test_what_is_attached_is_copied(self):
        desk = started()
        paper = [[(1, 0, 1)]]
        desk.attach("k", paper)
        self.assertEqual(repr(paper), "[[(1, 0, 1)]]")
        paper[0].append((0, 0, 1))
        paper.append([])
        self.assertIs(desk.fits("k"), True)
        with self.assertRaises(InvalidPaper):
            desk.attach("k", paper)
        self.assertIs(desk.fits("k"), True)


class Fits(DeskCase):

    def test_as_things_are_now(self):
        desk = started()
        desk.attach("k", OF_F)
        self.says(desk, ("change f 0 1", "-"))
        self.assertIs(desk.fits("k"), False)
        self.says(desk, ("change f 0 0", "-"))
        self.assertIs(desk.fits("k"), True)
        # With more makers it is a making still; with one fewer ahead of it not.
        self.says(desk, ("add m t", "a true"))
        self.assertIs(desk.fits("k"), True)
        self.says(desk, ("take m 0", "-"))
        self.assertIs(desk.fits("k"), False)
        self.says(desk, ("undo", "take m 0"))
        self.assertIs(desk.fits("k"), True)

    def test_of_what_it_was_kept_for(self):
        # The claim becomes true: a paper of its contrary does not fit any more, nor does one of the claim when it becomes false.
        desk = started()
        desk.attach("a", CROSSED)
        self.says(desk, ("add m t", "a true"))
        self.assertIs(desk.fits("a"), False)
        desk.attach("a", OF_T)
        self.assertIs(desk.fits("a"), True)
        self.says(desk, ("undo", "add m t"))
        self.assertIs(desk.fits("a"), False)
        self.says(desk, ("redo", "add m t"))
        self.assertIs(desk.fits("a"), True)

    def test_in_the_place_of_one_that_was_kept(self):
        desk = started()
        desk.attach("k", OF_F)
        desk.attach("k", [[(1, 0, 2), (0, 1, -1)]])
        self.assertIs(desk.fits("k"), True)
        desk.do("undo")
        self.assertIs(desk.fits("k"), True)

    def test_forgotten_and_noted_again(self):
        desk = started()
        desk.attach("k", OF_F)
        self.says(desk, ("forget k", "-"), ("claim k made m f", "k true"))
        self.assertIs(desk.fits("k"), True)
        self.says(desk, ("forget k", "-"), ("claim k met m 2", "k true"))
        # The same making would be a paper of this claim, too; but the words are others.
        self.assertIs(desk.fits("k"), False)
        self.says(desk, ("forget k", "-"), ("claim k kept m f", "k false"))
        self.assertIs(desk.fits("k"), False)
        self.says(desk, ("poly ff 0,0,1", "-"), ("forget k", "-"), ("claim k made m ff", "k true"))
        self.assertIs(desk.fits("k"), False)
        self.says(desk, ("forget k", "-"), ("claim k made m f", "k true"))
        self.assertIs(desk.fits("k"), True)
        desk.do_all("forget k", "claim k met m 2")
        desk.attach("k", OF_F)
        self.assertIs(desk.fits("k"), True)
        self.says(desk, ("undo", "claim k met m 2"), ("undo", "forget k"))
        self.assertEqual([desk.do("claimed k"), desk.fits("k")], ["made m f", False])

    def test_of_labels_alone(self):
        desk = started()
        desk.do("claim kk made m f")
        desk.attach("k", OF_F)
        self.assertEqual([desk.fits("k"), desk.fits("kk")], [True, False])

    def test_of_one_contrary_under_other_words(self):
        # Kept for the claim all, of its contrary: under the words tied it does not fit, though it is a paper of that.
        desk = started()
        desk.attach("a", CROSSED)
        self.says(desk, ("forget a", "-"), ("claim a tied m", "a true"))
        self.assertIs(desk.fits("a"), False)
        desk.attach("a", CROSSED)
        self.assertIs(desk.fits("a"), True)

    def test_things_of_another_kind(self):
        desk = started()
        desk.attach("k", OF_F)
        desk.do_all("drop f", "makers f g")
        self.assertIs(desk.fits("k"), False)
        desk.do_all("drop f", "poly f 0,0,1")
        self.assertIs(desk.fits("k"), True)

    def test_copies_and_trials(self):
        desk = started()
        desk.attach("k", OF_F)
        other = desk.copy()
        self.assertIs(other.fits("k"), True)
        other.attach("a", CROSSED)
        self.assertEqual([desk.fits("a"), other.fits("a")], [False, True])
        with Trial(desk) as held:
            held.attach("a", CROSSED)
            held.do("change f 0 1")
            held.attach("k", [[(1, 0, 1), (0, 0, 1)]])
            self.assertEqual([held.fits("a"), held.fits("k")], [True, True])
        self.assertEqual([desk.fits("a"), desk.fits("k")], [False, True])
        desk.attempt("forget k", "claim k made m g")
        self.assertIs(desk.fits("k"), True)
        # Deeds done again have no papers.
        self.assertIs(Desk.again(desk.lines()).fits("k"), False)

    def test_do_all_that_fails(self):
        desk = started()
        desk.attach("k", OF_F)
        with self.assertRaises(RuntimeError):
            desk.do_all("change f 0 1", "drop x")
        self.assertIs(desk.fits("k"), True)


if __name__ == "__main__":
    unittest.main()
