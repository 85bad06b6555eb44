"""[11]: fractions."""

import unittest
from fractions import Fraction

from fromplaces.errors import DividedByZero, InvalidNumber
from fromplaces.ratios import Ratio
from support import NO_KIND, NO_NUMBER, Case, ratios

GREAT = 3 ** 200
SOME = [0, 1, -1, 2, -7, GREAT, Ratio(0), Ratio(1), Ratio(-3), Ratio(1, 2), Ratio(-2, 3), Ratio(7, 6), Ratio(GREAT, 2 ** 150)]


def fraction(number):
    return Fraction(number) if isinstance(number, int) else Fraction(number.top, number.bottom)


class Making(Case):

    def test_lowest_terms(self):
        for top, bottom, told in [
            (4, -6, (-2, 3)), (-4, -6, (2, 3)), (0, -5, (0, 1)), (0, 7, (0, 1)), (6, 3, (2, 1)), (-6, 3, (-2, 1)),
            (5, 1, (5, 1)), (1, -1, (-1, 1)), (GREAT * 10, GREAT * 4, (5, 2)), (10 ** 40, -1, (-10 ** 40, 1)),
        ]:
            made = Ratio(top, bottom)
            self.assertEqual((made.top, made.bottom), told)
            self.assertEqual([type(made.top), type(made.bottom)], [int, int])

    def test_bottom_may_lack(self):
        self.assertEqual(Ratio(5), Ratio(5, 1))
        self.assertEqual(Ratio(top=6, bottom=4), Ratio(3, 2))
        self.assertEqual(Ratio(bottom=4, top=6), Ratio(3, 2))

    def test_wrong_parts(self):
        for value in NO_NUMBER + [Ratio(1), Ratio(1, 2)]:
            self.fails(InvalidNumber, {"value": value}, Ratio, value)
            self.fails(InvalidNumber, {"value": value}, Ratio, value, 2)
            self.fails(InvalidNumber, {"value": value}, Ratio, 2, value)
            self.fails(InvalidNumber, {"value": value}, Ratio, bottom=value, top=1)

    def test_first_wrong_part_decides(self):
        self.fails(InvalidNumber, {"value": "a"}, Ratio, "a", "b")
        self.fails(InvalidNumber, {"value": True}, Ratio, True, 0)
        self.fails(InvalidNumber, {"value": False}, Ratio, 0, False)
        self.fails(InvalidNumber, {"value": 0}, Ratio, 1, 0)
        self.fails(InvalidNumber, {"value": 0}, Ratio, 0, 0)


class Properties(Case):

    def test_sign(self):
        for number, sign in [(Ratio(-1, 9), -1), (Ratio(0), 0), (Ratio(1, 9), 1), (Ratio(-GREAT), -1), (Ratio(4), 1)]:
            self.alike(number.sign, sign)

    def test_is_whole(self):
        for number, whole in [(Ratio(0), True), (Ratio(4, 2), True), (Ratio(-9, 3), True), (Ratio(1, 2), False)]:
            self.assertIs(number.is_whole, whole)

    def test_they_cannot_be_assigned(self):
        made = Ratio(1, 2)
        for name in ["top", "bottom", "sign", "is_whole"]:
            with self.assertRaises(AttributeError):
                setattr(made, name, 5)
        self.assertEqual(made, Ratio(1, 2))

    def test_texts(self):
        for number, text, code in [
            (Ratio(3, 2), "3/2", "Ratio(3, 2)"), (Ratio(-3, 2), "-3/2", "Ratio(-3, 2)"), (Ratio(4), "4", "Ratio(4, 1)"),
            (Ratio(0), "0", "Ratio(0, 1)"), (Ratio(-8, 2), "-4", "Ratio(-4, 1)"),
        ]:
            self.assertEqual([str(number), repr(number)], [text, code])

    def test_equal(self):
        self.assertTrue(Ratio(1, 2) == Ratio(2, 4))
        self.assertFalse(Ratio(1, 2) != Ratio(2, 4))
        self.assertTrue(Ratio(1, 2) != Ratio(1, 3))
        self.assertFalse(Ratio(1, 2) == Ratio(-1, 2))
        self.assertTrue(Ratio(2, 3) != Ratio(2, 5))
        for value in NO_NUMBER + [1, 0]:
            for number in [Ratio(1), Ratio(0)]:
                self.assertIs(number == value, False)
                self.assertIs(value == number, False)
                self.assertIs(number != value, True)
                self.assertIs(value != number, True)


class Reckoning(Case):

    def same(self, found, wanted):
        self.assertIs(type(found), Ratio)
        self.assertEqual((found.top, found.bottom), (wanted.numerator, wanted.denominator))

    def test_signs(self):
        for one in SOME:
            for two in SOME:
                if isinstance(one, Ratio) or isinstance(two, Ratio):
                    self.same(one + two, fraction(one) + fraction(two))
                    self.same(one - two, fraction(one) - fraction(two))
                    self.same(one * two, fraction(one) * fraction(two))

    def test_minus_in_front_and_size(self):
        for one in SOME:
            if isinstance(one, Ratio):
                self.same(-one, -fraction(one))
                self.same(one.size(), abs(fraction(one)))

    def test_nothing_changes(self):
        one, two = Ratio(1, 2), Ratio(1, 3)
        [one + two, one - two, one * two, -one, one.over(two), one.size(), one.is_below(two), Ratio.total([one, two])]
        self.assertEqual([one, two], ratios("1/2", "1/3"))

    def test_over(self):
        for one in SOME:
            for two in SOME:
                if isinstance(one, Ratio) and fraction(two) != 0:
                    self.same(one.over(two), fraction(one) / fraction(two))
        self.same(Ratio(1, 2).over(other=-3), Fraction(-1, 6))

    def test_over_nought(self):
        for nought in [0, Ratio(0)]:
            self.fails(DividedByZero, {}, Ratio(1, 2).over, nought)
            self.fails(DividedByZero, {}, Ratio(0).over, nought)
        self.fails(InvalidNumber, {"value": False}, Ratio(0).over, False)

    def test_order(self):
        for one in SOME:
            for two in SOME:
                if isinstance(one, Ratio):
                    self.assertIs(one.is_below(two), fraction(one) < fraction(two))
                    self.assertIs(one.is_at_most(two), fraction(one) <= fraction(two))
        self.assertIs(Ratio(1).is_below(other=2), True)
        self.assertIs(Ratio(1).is_at_most(other=1), True)

    def test_wrong_values(self):
        one = Ratio(1, 2)
        for value in NO_NUMBER:
            for call in [one.__add__, one.__sub__, one.__mul__, one.over, one.is_below, one.is_at_most]:
                self.fails(InvalidNumber, {"value": value}, call, value)
            self.fails(InvalidNumber, {"value": value}, lambda: one + value)
            self.fails(InvalidNumber, {"value": value}, lambda: one - value)
            self.fails(InvalidNumber, {"value": value}, lambda: one * value)


class Total(Case):

    def test_totals(self):
        self.assertEqual(Ratio.total([]), Ratio(0))
        self.assertEqual(Ratio.total(()), Ratio(0))
        self.assertEqual(Ratio.total([1, 2]), Ratio(3))
        self.assertEqual(Ratio.total((Ratio(1, 2), 1, Ratio(-1, 3))), Ratio(7, 6))
        self.assertEqual(Ratio.total(numbers=[Ratio(1, 6)] * 200), Ratio(100, 3))
        self.assertIs(type(Ratio.total([1])), Ratio)
        self.assertEqual(self.unchanged(Ratio.total, [Ratio(1, 2), GREAT, -GREAT]), Ratio(1, 2))

    def test_no_list(self):
        for value in NO_KIND + [3, Ratio(1, 2)]:
            self.fails(InvalidNumber, {"value": value}, Ratio.total, value)

    def test_wrong_element(self):
        for value in NO_NUMBER:
            self.fails(InvalidNumber, {"value": value}, Ratio.total, [1, Ratio(1, 2), value, "later"])
            self.fails(InvalidNumber, {"value": value}, Ratio.total, (value, None))


if __name__ == "__main__":
    unittest.main()
