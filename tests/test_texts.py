"""[91]: sorts, which values are of them, and their written forms."""

import random
import unittest

from fromplaces.errors import InvalidSort, InvalidValue
from fromplaces.made import making_of
from fromplaces.makings import is_making
from fromplaces.ratios import Ratio
from fromplaces.readers import read
from fromplaces.rooms import Room
from fromplaces.texts import is_of_sort, sorts, written
from support import NO_KIND, NO_MAKERS, NO_NUMBER, NO_POLY, Case, six_digits, small_makers

HALF = Ratio(1, 2)
SORTS = ["number", "poly", "makers", "making", "room"]
ROOM = Room([-2, 0, 2], [])
NO_SORT = NO_KIND + [5, HALF, [], ["number"], ("poly",), "Number", "number ", " poly", "", "maker", "clock", "line", "numbers", 0]
# Values that are no making of any makers, whatever their positions.
NO_LINES = NO_KIND + [
    5, HALF, [], (), [1], [None], [True], ["line"], [(0, 0, 1)], [[0, 0, 1]], [[[0, 0, 1]]], [[(0, 0)]], [[(0, 0, 1, 1)]], [[()]],
    [[(0, 0, True)]], [[(0, False, 1)]], [[(True, 0, 1)]], [[(-1, 0, 1)]], [[(0, -1, 1)]], [[(0, 0, "1")]], [[("0", 0, 1)]],
    [[(Ratio(0), 0, 1)]], [[(0, Ratio(1), 1)]], [[(0, 0, None)]], [[]] * 201, [[(0, 0, 1)] * 61], [[], [(0, 0, 1)] * 61], [{}], [[], {1: 2}],
]


class Sorts(Case):

    def test_sorts(self):
        self.assertEqual(self.unchanged(sorts), SORTS)

    def test_wrong_sorts(self):
        for value in NO_SORT:
            self.fails(InvalidSort, {"value": value}, is_of_sort, value, 5)
            self.fails(InvalidSort, {"value": value}, is_of_sort, value=5, sort=value)
            # Ahead of the value, which is of no sort either.
            self.fails(InvalidSort, {"value": value}, written, value, None)
            self.fails(InvalidSort, {"value": value}, written, value=None, sort=value)


class IsOfSort(Case):

    def check(self, sort, right, wrong):
        for value in right:
            self.assertIs(self.unchanged(is_of_sort, sort, value), True, value)
            self.assertIs(is_of_sort(value=value, sort=sort), True)
            self.assertIs(type(self.unchanged(written, sort, value)), str)
        for value in wrong:
            self.assertIs(is_of_sort(sort, value), False, value)
            self.fails(InvalidValue, {"value": value}, written, sort, value)
            self.fails(InvalidValue, {"value": value}, written, value=value, sort=sort)

    def test_numbers(self):
        self.check("number", [0, -1, 10 ** 30, HALF, Ratio(-3), Ratio(0)], NO_NUMBER + [ROOM, [[1]]])

    def test_polys(self):
        self.check("poly", [[], [0], (), (1, 2), [HALF, 0], [0] * 49, [1] * 49], NO_POLY + [ROOM, [ROOM]])

    def test_makers(self):
        self.check("makers", [[[0, 1]], ([0, 1], (0, HALF, 0)), [[5, 0, 1]] * 4, [[0] * 7 + [1] + [0] * 41]], NO_MAKERS + [ROOM])

    def test_makings(self):
        right = [
            [[]], (), ([],), [()], [[(0, 0, 1)]], [[(4, 4, HALF)]], [[], [(5, 0, 1)]], [[], [(0, 5, 0)]], ([(4, 0, 1)], ((5, 5, 1),), [(6, 6, 1)]),
            [[(0, 0, 1)] * 60] * 200, [[]] * 199 + [[(203, 203, HALF)]], [[(1, 1, 1)]] + [[(at, at, 1)] for at in range(5, 60)],
        ]
        del right[1]
        wrong = [
            [[(5, 0, 1)]], [[(0, 5, 1)]], [[], [(6, 0, 1)]], [[], [(0, 6, 1)]], [[], [(5, 0, 1)], [(7, 0, 1)]], [[]] * 199 + [[(204, 0, 1)]],
        ]
        self.check("making", right, NO_LINES + wrong + [ROOM])

    def test_the_bound_is_not_how_many_makers_there_are(self):
        # The position 4 is that of a line of no makers but four, and here of none.
        making = [[(4, 4, 1)]]
        self.assertIs(is_making([[0, 1]], making), False)
        self.assertEqual(written("making", making), "making\nline\ntimes 4 4 1\n")
        # What comes to a degree above 96 is no making, but is written.
        self.assertIs(is_of_sort("making", [[(4, 4, 1)], *[[(at, at, 1)] for at in range(5, 12)]]), True)

    def test_rooms(self):
        self.check("room", [ROOM, Room([0] * 20 + [1], [])], NO_KIND + [5, HALF, [], [[1]], ROOM.rows(), [ROOM], (ROOM,), Room])


class Written(Case):

    def test_numbers(self):
        for value, wanted in [
            (0, "0"), (7, "7"), (-12, "-12"), (Ratio(0), "0"), (Ratio(5), "5"), (Ratio(-3), "-3"), (HALF, "1/2"), (Ratio(-3, 2), "-3/2"),
            (Ratio(2, 4), "1/2"), (Ratio(3, -9), "-1/3"), (10 ** 20, "1" + "0" * 20), (Ratio(1, 10 ** 9), "1/1000000000"),
        ]:
            self.assertEqual(written("number", value), f"number {wanted}\n")

    def test_polys(self):
        for value, wanted in [
            ([], "poly"), ([0], "poly"), ((0, Ratio(0)), "poly"), ([1, 0, 2, 0], "poly 1 0 2"), ((0, HALF), "poly 0 1/2"),
            ([Ratio(4, 2), -1], "poly 2 -1"), ([0] * 48 + [-1], "poly" + " 0" * 48 + " -1"),
        ]:
            self.assertEqual(written("poly", value), wanted + "\n")

    def test_makers(self):
        self.assertEqual(written("makers", [[0, 0, 1]]), "makers\nmaker 0 0 1\n")
        self.assertEqual(written("makers", ([0, Ratio(-1), 0, HALF, 0, 0], (3, Ratio(4, 2)))), "makers\nmaker 0 -1 0 1/2\nmaker 3 2\n")

    def test_makings(self):
        self.assertEqual(written("making", [[]]), "making\nline\n")
        self.assertEqual(written("making", [[], [(0, 0, HALF), (1, 5, -2)], ()]), "making\nline\nline\ntimes 0 0 1/2\ntimes 1 5 -2\nline\n")
        self.assertEqual(written("making", ([(4, 0, Ratio(6, 3))],)), "making\nline\ntimes 4 0 2\n")

    def test_rooms(self):
        self.assertEqual(written("room", ROOM), "clock -1 0 1\nrow 0 1\n")
        self.assertEqual(written("room", Room([3, 7], [])), "clock 3/7 1\nrow 1\n")
        self.assertEqual(written("room", Room([0, 0, 0, 1], [[0, 0, 1]])), "clock 0 0 0 1\nrow 1 0 0\nrow 0 0 1\n")
        self.assertEqual(written("room", Room([0, -1, 0, 1], [[0, 1, 1]])), "clock 0 -1 0 1\nrow 1 1 0\nrow 0 0 1\n")
        self.assertEqual(written("room", Room([0, -1, 0, 1], [[0, 2, 4]])), "clock 0 -1 0 1\nrow 1 0 0\nrow 0 1 0\nrow 0 0 1\n")
        self.assertEqual(written(value=Room([0, 0, -1, 1], [[0, 1, 2]]), sort="room")[:15], "clock 0 0 -1 1\n")

    def test_single_by_worth(self):
        for sort, one, other in [
            ("number", 3, Ratio(3)), ("poly", [1, 2], (Ratio(1), Ratio(2), 0)), ("makers", [[0, 1]], ((0, Ratio(1), 0),)),
            ("making", [[(0, 1, 2)]], (((0, 1, Ratio(2)),),)), ("room", Room([-1, 0, 1], []), Room([3, 0, -3, 0], [[0, 0, 5]])),
        ]:
            self.assertEqual(written(sort, one), written(sort, other))

    def test_read_again(self):
        source = random.Random(900)
        for _ in range(30):
            makers = small_makers(source)
            making = making_of(makers, makers[0])
            for sort, value in [
                ("makers", makers), ("making", making), ("room", Room([source.randint(-2, 2) for _ in range(source.randint(1, 6))] + [1], makers)),
                ("poly", six_digits(source, source.randint(0, 48))), ("number", six_digits(source, 0)[0]),
            ]:
                text = written(sort, value)
                found = read(text)
                self.assertEqual(found[0], sort)
                self.assertEqual(written(*found), text)
                if sort in ("number", "room", "poly"):
                    self.assertEqual(found[1], value)


if __name__ == "__main__":
    unittest.main()
