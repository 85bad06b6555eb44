"""[93], [94]: claims, contraries, whether they are true, their papers."""

import copy
import random
import time
import unittest

from fromplaces.bases import common_degree, full_base, met_counts
from fromplaces.claims import contrary, is_claim, is_paper_of, is_true, paper_of, words
from fromplaces.counts import gaps, met
from fromplaces.errors import InvalidClaim, TooMany
from fromplaces.houses import House
from fromplaces.kept import is_kept_apart
from fromplaces.made import is_made, is_making_of
from fromplaces.makings import is_making, made_by
from fromplaces.polys import degree, plus, put_in, scaled, times, worth
from fromplaces.ratios import Ratio
from fromplaces.rooms import Room
from support import NO_COUNT, NO_KIND, NO_MAKERS, NO_NUMBER, NO_POLY, Case, digits_of, lists_in, shown, six_digits, small_makers

HALF = Ratio(1, 2)
WORDS = [("made", "kept"), ("all", "tied"), ("within", "beyond"), ("joint", "apart"), ("met", "gap")]
OTHER = {one: other for pair in WORDS for one, other in [pair, pair[::-1]]}
CROSS, CUSP, ALL = [[0, 0, 1], [0, -1, 0, 1]], [[0, 0, 1], [0, 0, 0, 1]], [[0, 1]]
EVEN = [[0, 0, 0, 0, 1], [0, 0, 0, 0, 0, 0, 1]]
CROSSED = Room([-1, 0, 1], [])
# True claims, each with whether it has a paper.
TRUE = [
    ("made", CROSS, [0, -1, 0, 0, 0, 1]), ("made", ALL, [0] * 24 + [1]), ("made", CROSS, []), ("made", tuple(CROSS), (HALF, 0, 0)), ("made", CUSP, [1, 0, 2, 3]),
    ("kept", CROSS, [0, 1]), ("kept", CROSS, [0, 1, 0, 0, 1]), ("kept", [[0, 0, 1]], [0, 0, 0, 1]), ("kept", EVEN, [0, 0, 1]), ("kept", EVEN, [0, 1]),
    ("all", ALL), ("all", [[0, 0, 1], [5, HALF, 7]]), ("tied", CROSS), ("tied", EVEN), ("tied", ([0, 0, 1],)),
    ("within", [[0, 0, 0, 0, 1]], CROSS), ("within", CROSS, ALL), ("within", CROSS, CROSS), ("within", [[1, 0, 1], [5, -2, 1, 2]], CROSS),
    ("beyond", ALL, CROSS), ("beyond", [[0, 0, 1], [0, 1]], CROSS), ("beyond", CROSS, CUSP), ("beyond", [[0, 0, 1]], EVEN), ("beyond", [[0, 1]], EVEN),
    ("joint", CROSS, 1, -1), ("joint", ALL, HALF, Ratio(1, 2)), ("joint", EVEN, 3, -3), ("apart", CROSS, 1, 2), ("apart", [[0, 0, 1], [0, 1]], -1, 1),
    ("met", CROSS, 2), ("met", CROSS, 19), ("met", EVEN, 4), ("met", EVEN, 18), ("met", [[0, 0, 0, 0, 1], [0, 0, 0, 0, 0, 0, 1], [0, -1] + [0] * 5 + [1]], 2),
    ("gap", CROSS, 1), ("gap", EVEN, 2), ("gap", EVEN, 1), ("gap", EVEN, 19), ("gap", [[0] * 5 + [1], [0] * 6 + [1]], 19), ("gap", [[0, 0, 1]], 3),
]


def falls_within(makers):
    """Whether the House of the makers is told."""
    return common_degree(makers) > 1 or len(gaps(met_counts(makers))) <= 10


class Claims(Case):

    def test_words(self):
        self.assertEqual(self.unchanged(words), WORDS)
        found = words()
        found.append(3)
        self.assertEqual([words(), [type(one) for one in words()]], [WORDS, [tuple] * 5])

    def test_is_claim(self):
        for claim in TRUE:
            self.assertIs(self.unchanged(is_claim, claim), True)
            self.assertIs(is_claim(value=(OTHER[claim[0]], *claim[1:])), True)
            for wrong in [list(claim), claim[1:], claim[:-1], (*claim, 1), (*claim, []), (claim,), (claim[0].upper(), *claim[1:]), (claim[0] + " ", *claim[1:])]:
                self.assertIs(is_claim(wrong), False, wrong)
            for word in ["", "house", "make", None, 5, True, [claim[0]], (claim[0],), b"made", "claim", "number"]:
                self.assertIs(is_claim((word, *claim[1:])), False)
        for value in NO_KIND + [5, HALF, [], (), ("made",), ("all",), ("joint", CROSS, 1), ("all", CROSS, CROSS), CROSSED, ("met", 3), ("met", 3, CROSS)]:
            self.assertIs(is_claim(value), False, value)

    def test_parts(self):
        for value in NO_MAKERS:
            for rest in [("made", [0, 1]), ("kept", []), ("all",), ("tied",), ("within", CROSS), ("beyond", CROSS), ("joint", 1, 1), ("apart", 1, 2), ("met", 3), ("gap", 3)]:
                self.assertIs(is_claim((rest[0], value, *rest[1:])), False, value)
            self.assertIs(is_claim(("within", CROSS, value)), False)
            self.assertIs(is_claim(("beyond", CROSS, value)), False)
        for value in NO_POLY + [[0] * 25 + [1], [1] * 26, [0] * 48 + [HALF]]:
            self.assertIs(is_claim(("made", CROSS, value)), False)
            self.assertIs(is_claim(("kept", CROSS, value)), False)
        for value in [[], [0] * 49, [0] * 24 + [1], [0] * 24 + [1, 0, 0], (1, 2)]:
            self.assertIs(is_claim(("made", CROSS, value)), True)
            self.assertIs(is_claim(("kept", CROSS, value)), True)
        for value in NO_NUMBER:
            for word in ("joint", "apart"):
                self.assertIs(is_claim((word, CROSS, value, 1)), False)
                self.assertIs(is_claim((word, CROSS, 1, value)), False)
        for value in NO_COUNT + [0, 20, 21, 100]:
            for word in ("met", "gap"):
                self.assertIs(is_claim((word, CROSS, value)), False)
        for value in (1, 19):
            self.assertIs(is_claim(("met", CROSS, value)) and is_claim(("gap", CROSS, value)), True)
        # Makers with noughts at the end, tuples for lists.
        self.assertIs(is_claim(("all", ((0, 1, 0, 0), [0] * 7 + [1] + [0] * 41))), True)
        self.assertIs(is_claim(("all", ([0] * 8 + [1],))), False)

    def test_is_true(self):
        for claim in TRUE:
            self.assertIs(self.unchanged(is_true, claim), True, claim)
            self.assertIs(is_true(claim=(OTHER[claim[0]], *claim[1:])), False, claim)

    def test_is_true_of_any(self):
        source = random.Random(930)
        for _ in range(40):
            makers, others = small_makers(source), small_makers(source, 4)
            number, other, count = source.randint(-2, 2), source.choice([1, HALF, -1]), source.randint(1, 19)
            poly = [source.randint(-1, 1) for _ in range(source.randint(0, 9))]
            for claim, wanted in [
                (("made", makers, poly), is_made(makers, poly)), (("all", makers), is_made(makers, [0, 1])),
                (("within", makers, others), all([is_made(others, one) for one in makers])),
                (("joint", makers, number, other), all([worth(one, number) == worth(one, other) for one in makers])),
                (("met", makers, count), count in met(met_counts(makers), 19)),
            ]:
                self.assertIs(is_true(claim), wanted)
                self.assertIs(is_true(contrary(claim)), not wanted)

    def test_contrary(self):
        for claim in TRUE:
            before = copy.deepcopy(claim)
            found = self.unchanged(contrary, claim)
            self.assertEqual(shown(found), shown((OTHER[claim[0]], *claim[1:])))
            self.assertEqual(shown(contrary(claim=found)), shown(claim))
            for one in lists_in(found):
                one.append(5)
            self.assertEqual(shown(claim), shown(before))
        # The numbers are as they were passed, INTEGERS or Ratios.
        found = contrary(("joint", ([0, Ratio(2), 3],), 1, Ratio(1)))
        self.assertEqual(repr(found), "('apart', ([0, Ratio(2, 1), 3],), 1, Ratio(1, 1))")

    def test_wrong_claims(self):
        wrong = NO_KIND + [
            5, HALF, [], (), ("made",), ["all", CROSS], ("all", []), ("met", CROSS, 0), ("gap", CROSS, 20), ("made", CROSS, [0] * 25 + [1]), ("joint", CROSS, 1),
            ("joint", CROSS, True, 1), ("met", CROSS, True), ("all", CROSS, 1), ("more", CROSS), ("within", CROSS, [[1]]), ("met", CROSS, Ratio(3)),
        ]
        for value in wrong:
            for function in [is_true, contrary, paper_of]:
                self.fails(InvalidClaim, {"value": value}, function, value)
                self.fails(InvalidClaim, {"value": value}, function, claim=value)
            self.fails(InvalidClaim, {"value": value}, is_paper_of, value, None)
            self.fails(InvalidClaim, {"value": value}, is_paper_of, value=1, claim=value)


class Papers(Case):

    def check(self, claim):
        """A paper of the claim or of its contrary, and none of both."""
        both = [claim, contrary(claim)]
        truths = [is_true(one) for one in both]
        self.assertEqual(sorted(truths), [False, True])
        true, false = both if truths[0] else both[::-1]
        self.assertIsNone(self.unchanged(paper_of, false))
        try:
            paper = self.unchanged(paper_of, true)
        except TooMany:
            return "stopped"
        if true[0] == "joint":
            self.assertIsNone(paper)
            return None
        self.assertIs(self.unchanged(is_paper_of, true, paper), True, true)
        self.assertIs(is_paper_of(value=paper, claim=true), True)
        self.assertIs(is_paper_of(false, paper), False)
        self.by_hand(true, paper)
        self.assertLessEqual(digits_in(paper), 2000)
        return paper

    def by_hand(self, claim, paper):
        """The paper is what the table tells."""
        word, makers, *parts = claim
        if word in ("made", "all"):
            self.assertIs(is_making_of(makers, parts[0] if parts else [0, 1], paper), True)
        elif word in ("kept", "tied"):
            self.assertIs(type(paper), Room)
            self.assertIs(is_kept_apart(makers, parts[0] if parts else [0, 1], paper), True)
        elif word == "within":
            self.assertIs(type(paper), list)
            self.assertEqual([made_by(parts[0], one) for one in paper], [plus(one, []) for one in makers])
        elif word == "beyond":
            self.assertEqual([type(one) for one in (paper, *paper)], [tuple, int, Room])
            self.assertIs(is_kept_apart(parts[0], makers[paper[0]], paper[1]), True)
        elif word == "apart":
            self.assertIs(type(paper), int)
            self.assertNotEqual(worth(makers[paper], parts[0]), worth(makers[paper], parts[1]))
        elif word == "met":
            self.assertIs(is_making(makers, paper), True)
            self.assertEqual(degree(made_by(makers, paper)), parts[0])
        else:
            self.assertIs(type(paper), Room)
            self.assertGreater(degree(paper.clock()), parts[0])
            self.assertNotIn(parts[0], paper.heads())
            self.assertIs(all([paper.holds(one) for one in makers]), True)

    def test_known(self):
        for claim in TRUE:
            paper = self.check(claim)
            self.assertNotEqual(paper, "stopped")
            self.assertIs(paper is None, claim[0] == "joint")
            self.assertIsNone(paper_of(claim=contrary(claim)))

    def test_any(self):
        source = random.Random(931)
        for at in range(60):
            makers, others = small_makers(source), small_makers(source, 5)
            if at % 4 == 0:
                makers = [put_in(one, [0, source.randint(-1, 1), 1]) for one in small_makers(source, 2)]
            poly = [source.randint(-1, 1) for _ in range(source.randint(0, 25))]
            made = plus(times(makers[0], makers[-1]), scaled(makers[0], HALF))
            number, other = source.randint(-2, 2), source.choice([1, HALF, -1])
            for claim in [
                ("made", makers, poly), ("made", makers, made), ("all", makers), ("within", makers, others), ("within", others, makers),
                ("joint", makers, number, other), ("met", makers, source.randint(1, 19)), ("met", makers, source.randint(1, 6)),
            ]:
                if self.check(claim) == "stopped":
                    self.assertIs(falls_within(makers) and falls_within(others) and common_degree(makers) == 1, False)

    def test_joint_has_none(self):
        for value in NO_KIND + [0, 1, 5, CROSSED, [], [[(0, 1, 1)]], (0, CROSSED)]:
            self.assertIs(is_paper_of(("joint", CROSS, 1, -1), value), False)
            self.assertIs(is_paper_of(("joint", CROSS, 1, 2), value), False)
            self.assertIs(is_paper_of(("apart", CROSS, 1, -1), value), False)
        self.assertIsNone(paper_of(("joint", CROSS, 1, 2)))

    def test_too_many(self):
        great = [[0] * 5 + [1], [0] * 7 + [1]]
        for claim in [("kept", great, [0, 1]), ("tied", great), ("beyond", CROSS, great), ("beyond", [[0, 1]], [[0] * 6 + [1], [0] * 7 + [1]])]:
            self.assertIs(is_true(claim), True)
            self.fails(TooMany, {"what": "clock", "limit": 20}, paper_of, claim)
            self.assertIsNone(paper_of(contrary(claim)))
        for makers in [great, [[0] * 6 + [1], [0] * 7 + [1]]]:
            self.fails(TooMany, {"what": "gaps", "limit": 10}, paper_of, ("gap", makers, 1))
            self.fails(TooMany, {"what": "gaps", "limit": 10}, paper_of, ("gap", makers, 16))
            # None is told ahead of it, and makings have no such limit.
            self.assertIsNone(paper_of(("gap", makers, 14)))
            self.check(("met", makers, 14))
            self.assertIsNone(paper_of(("met", makers, 1)))
        self.check(("made", great, [0] * 12 + [1]))

    def test_gaps_of_common_degrees(self):
        for step in range(2, 8):
            for makers in [[[0] * step + [3]], [put_in([0, 0, 1], [0] * step + [1]), put_in([0, 0, 0, 1], [0] * step + [1])]]:
                if max([degree(one) for one in makers]) > 7:
                    continue
                self.assertEqual(common_degree(makers), step)
                clock = 2 if len(makers) == 2 else 0
                for count in range(1, 20):
                    claim = ("gap", makers, count)
                    least = max(step * (count // step + 1), step * clock)
                    if not is_true(claim):
                        self.check(("met", makers, count))
                        self.assertIsNone(paper_of(claim))
                    elif least > 20:
                        self.fails(TooMany, {"what": "clock", "limit": 20}, paper_of, claim)
                    else:
                        self.assertNotEqual(self.check(claim), "stopped")
        # The inner part t t + t, and t t and t t t of it.
        inner = [0, 1, 1]
        makers = [put_in([0, 0, 1], inner), put_in([0, 0, 0, 1], inner)]
        for count in range(1, 20):
            self.assertNotEqual(self.check(("gap", makers, count)), "stopped")
        makers = [put_in([0, 0, 1], inner), put_in([0, -1, 0, 1], inner)]
        for count in range(1, 20):
            self.assertNotEqual(self.check(("met", makers, count)), "stopped")

    def test_great_fractions(self):
        source = random.Random(932)
        begun = time.monotonic()
        for sizes in [(5, 6), (4, 7), (4, 6), (2, 7), (7, 7, 7, 7), (6,)]:
            makers = [six_digits(source, size) for size in sizes]
            more = [times(makers[0], [7]), plus(makers[-1], makers[0])]
            for claim in [
                ("made", makers, six_digits(source, 24)), ("made", makers, makers[0]), ("all", makers), ("within", more, makers), ("within", makers, more),
                ("joint", makers, six_digits(source, 0)[0], 5), ("met", makers, 14), ("met", makers, 1), ("met", makers, 3), ("met", makers, 19), ("met", makers, 18),
            ]:
                self.check(claim)
        self.assertLess(time.monotonic() - begun, 60)


def digits_in(value):
    """The most digits in it."""
    if isinstance(value, Room):
        return max(digits_of(value.clock()), *[digits_of(row) for row in value.rows()])
    if isinstance(value, (list, tuple)):
        return max([digits_in(one) for one in value], default=0)
    return digits_of([value]) if isinstance(value, Ratio) else len(str(value))


class IsPaperOf(Case):

    def check(self, claim, right, wrong):
        for value in right:
            self.assertIs(self.unchanged(is_paper_of, claim, value), True, value)
            self.assertIs(is_paper_of(contrary(claim), value), False, value)
        for value in wrong + NO_KIND:
            self.assertIs(is_paper_of(claim, value), False, value)
            self.assertIs(is_paper_of(value=value, claim=claim), False)

    def test_makings(self):
        making = [[(1, 2, 1), (0, 2, 1)]]
        wrong = [
            [], [[]], [[(1, 2, 1)]], [[(1, 2, 1), (0, 2, 2)]], [[(1, 2, 1), (0, 2, True)]], [[(1, True, 1), (0, 2, 1)]], [[(1, 2, 1), (3, 2, 1)]],
            [[[1, 2, 1], [0, 2, 1]]], [[(1, 2, 1), (0, 2, 1)], []], CROSSED, 5, (0, CROSSED), [[(1, 2, 1), (0, 2, 1, 0)]], making[0], [making],
        ]
        right = [making, ([(1, 2, Ratio(1)), (2, 0, 1)],), (((1, 2, HALF), (2, 1, HALF), (0, 2, 1)),), [[], *making, [(4, 0, 1)]]]
        self.check(("made", CROSS, [0, -1, 0, 0, 0, 1]), right, wrong)
        self.check(("made", CROSS, (0, Ratio(-1), 0, 0, 0, 1, 0)), right, wrong)
        self.check(("all", [[5, 2]]), [[[(1, 0, HALF), (0, 0, Ratio(-5, 2))]]], [[[(1, 0, HALF)]], [[(1, 0, 1)]], making, 0])
        self.check(("met", CROSS, 5), [making, [[(1, 2, 7), (0, 0, 3)]], [[(1, 2, -1)], [(3, 0, 1), (1, 1, 1)]]], [
            [[(1, 1, 1)]], [[(2, 2, 1)]], [[]], [[(1, 2, 0)]], [[(1, 2, 1)], [(1, 1, 1)]], [[(1, 2, True)]], CROSSED, 5])
        self.check(("met", CROSS, 1), [], [making, [[(1, 1, 1)]], CROSSED])

    def test_rooms(self):
        other = Room([-1, 0, 1], [[0, 1]])
        more = Room([0, -1, 0, 1], CROSS)
        for claim in [("kept", CROSS, [0, 1]), ("tied", CROSS), ("gap", CROSS, 1), ("kept", CROSS, (0, 3, 0))]:
            self.check(claim, [CROSSED, more], [other, Room([0, 0, 1], []), Room([-4, 0, 1], []), CROSSED.rows(), [CROSSED], (CROSSED,), (0, CROSSED), 1, Room])
        # Of a gap the degree of the clock must be above it, and its rows must have no first number there.
        self.check(("gap", CUSP, 1), [Room([0, 0, 1], []), Room([0, 0, 0, 1], [[0, 0, 1]])], [Room([0, 1], []), Room([3, 1], CUSP), CROSSED, Room([0, 0, 0, 1], [])])
        self.check(("gap", [[0, 0, 1]], 3), [Room([0, 0, 0, 0, 1], [[0, 0, 1]])], [Room([0, 0, 1], []), CROSSED, Room([0, 0, 0, 1], [[0, 0, 1]])])
        self.check(("gap", CROSS, 2), [], [CROSSED, more, Room([0, -1, 0, 1], [[0, 1]])])

    def test_lists_of_makings(self):
        first, second = [[(1, 1, 1)]], [[(2, 0, 2), (0, 0, 1)]]
        claim = ("within", [[0, 0, 0, 0, 1], [1, -2, 0, 2]], CROSS)
        self.check(claim, [[first, second], (first, second), ([[(1, 1, Ratio(1))]], ([(2, 0, 2), (0, 0, 1)],))], [
            [second, first], [first], [first, second, first], [], [first, None], [first, True], [first, [[]]], first, (0, CROSSED), CROSSED, [first, CROSSED]])
        self.check(("within", ALL, CROSS), [], [[first], [[[(0, 0, 1)]]], (0, CROSSED)])

    def test_positions_and_rooms(self):
        claim = ("beyond", [[0, 0, 1], [0, 1]], CROSS)
        self.check(claim, [(1, CROSSED), (1, Room([0, -1, 0, 1], CROSS))], [
            [1, CROSSED], (0, CROSSED), (2, CROSSED), (-1, CROSSED), (True, CROSSED), (Ratio(1), CROSSED), ("1", CROSSED), (1, None), (1, [CROSSED]), (1,), (1, CROSSED, 1),
            (1, Room([0, 0, 1], [])), (CROSSED, 1), 1, CROSSED, (), (None, CROSSED), ([1], CROSSED)])
        self.check(("beyond", CROSS, ALL), [], [(0, CROSSED), (1, CROSSED)])
        first = ("beyond", [[0, 1], [0, 0, 1]], CROSS)
        self.check(first, [(0, CROSSED)], [(False, CROSSED), (1, CROSSED)])

    def test_positions(self):
        self.check(("apart", CROSS, 1, 2), [0, 1], [2, -1, Ratio(1), Ratio(0), [0], (0,), (0, CROSSED), CROSSED, [], "0", 10 ** 20, [[(0, 1, 1)]]])
        self.check(("apart", CROSS, 1, -1), [], [0, 1, 2])
        self.check(("apart", [[0, 0, 1], [0, 1]], -1, Ratio(1)), [1], [0, 2, True, False])

    def test_one_thing_changed(self):
        for claim in TRUE:
            paper = paper_of(claim)
            self.assertIs(is_paper_of(claim, paper) if paper is not None else True, True)
            if isinstance(paper, list):
                self.assertIs(is_paper_of(claim, tuple(paper)), True)
                self.assertIs(is_paper_of(claim, [paper]), False)
                self.assertIs(is_paper_of(claim, paper + [None]), False)
            if isinstance(paper, tuple):
                self.assertIs(is_paper_of(claim, list(paper)), False)

    def test_houses(self):
        # What a full base tells, in claims.
        for makers in [CROSS, CUSP, [[0] * 4 + [1], [0, 1, 0, 0, 0, 0, 1]]]:
            base = full_base(makers)
            self.assertIs(is_true(("within", makers, base)) and is_true(("within", base, makers)), True)
            house = House(makers)
            for count in range(1, 20):
                self.assertIs(is_true(("gap", makers, count)), count in house.gaps())


if __name__ == "__main__":
    unittest.main()
