"""The whole program: one list of makers through counts, full base, house, clock, rooms, times, claims and a desk."""

import random
import unittest

from fromplaces.bases import base_makings, common_degree, full_base, inner_part, is_full_base, met_counts
from fromplaces.claims import contrary, is_paper_of, is_true, paper_of, words
from fromplaces.clocks import house_of, is_clock_of, least_clock
from fromplaces.counts import gaps, is_mirrored, least_counts
from fromplaces.desk import Desk
from fromplaces.houses import House
from fromplaces.kept import is_kept_apart, kept_apart, local_made
from fromplaces.made import is_made, is_making_of, left, making_of, taken_to
from fromplaces.makers import degrees
from fromplaces.makings import made_by
from fromplaces.moves import is_even, is_moved, is_power_house, moved
from fromplaces.polys import degree, divided, put_in, told, worth
from fromplaces.ratios import Ratio
from fromplaces.readers import read
from fromplaces.rooms import Room, room_by
from fromplaces.stops import clock_times, crossings, is_stop, stop_part, weight
from fromplaces.texts import written
from fromplaces.times import bundle, bundle_gaps, is_parted, is_plain_time, times_at
from fromplaces.together import is_within, joined, lone, met_house
from places import some_makers
from support import Case, small_makers


def poly_word(poly):
    return ",".join([str(number) for number in poly]) or "-"


class Whole(Case):

    def test_one_list_of_makers_of_each_kind(self):
        for makers in some_makers():
            self.of_counts(makers)
            self.of_house(makers)
            self.of_times(makers)
            self.of_claims(makers)
            self.of_desk(makers)

    def of_counts(self, makers):
        counts, base = met_counts(makers), full_base(makers)
        self.assertEqual([degree(one) for one in base], counts)
        self.assertEqual(least_counts(counts), counts)
        self.assertEqual([common_degree(makers), inner_part(makers)], [1, told([0, 1])])
        for one, making in zip(base, base_makings(makers)):
            self.assertEqual([made_by(makers, making), taken_to(makers, degree(one))], [one, one])
            self.assertEqual(read(written("making", making)), ("making", making))
        for one in degrees(makers):
            self.assertIsNotNone(taken_to(makers, one))
        if len(base) <= 4 and max(counts) <= 7:
            self.assertIs(is_full_base(base, base), True)

    def of_house(self, makers):
        house, counts = House(makers), met_counts(makers)
        self.assertEqual(house.gaps(), gaps(counts))
        if is_mirrored(counts):
            self.assertIs(is_even(house), True)
        clock, room = house.clock(), house.room()
        self.assertIs(is_clock_of(house, clock), True)
        if room is not None:
            self.assertEqual([room, house_of(room), least_clock(room)], [Room(clock, makers), house, clock])
            self.assertEqual(room_by(clock, room.rows()), room)
            self.assertEqual(read(written("room", room)), ("room", room))
        for poly in [[0, 1], [0, 0, 1], [0, 1, 1, 0, 0, 0, 1], [1, 2, 3]]:
            made = is_made(makers, poly)
            self.assertEqual([house.holds(poly), house.left(poly)], [made, left(makers, poly)])
            if degree(clock) > 0:
                self.assertIs(local_made(makers, poly, clock), made)
            if made:
                self.assertIs(is_making_of(makers, poly, making_of(makers, poly)), True)
                self.assertIsNone(kept_apart(makers, poly))
            else:
                self.assertIs(is_kept_apart(makers, poly, kept_apart(makers, poly)), True)
                self.assertIsNone(making_of(makers, poly))

    def of_times(self, makers):
        house = House(makers)
        for number in [0, 1, -1, Ratio(1, 2)] + [one for one, _ in clock_times(house)]:
            found = times_at(house, number)
            self.assertEqual(is_plain_time(house, number), degree(bundle(house, number)) == 0)
            self.assertEqual(is_stop(house, number), worth(stop_part(house), number).sign == 0)
            self.assertEqual(weight(house, number) > 1, is_stop(house, number))
            self.assertIs(is_parted(house, bundle(house, number)), True)
            self.assertLessEqual(bundle_gaps(house, number), house.gap_count)
            self.assertEqual(divided(found, bundle(house, number))[1] == [] or not is_plain_time(house, number), True)
            for other in [one for some in crossings(house) for one in some]:
                self.assertIs(is_true(("joint", makers, number, other)), worth(found, other).sign == 0)
        far = moved(house, 2, -1)
        self.assertIs(is_moved(house, far, 2, -1), True)
        self.assertEqual(far, House([put_in(one, [-1, 2]) for one in makers]))
        self.assertEqual([is_even(far), joined(house, far).gap_count <= house.gap_count], [is_even(house), True])
        if house.gap_count <= 5:
            both = met_house(house, far)
            self.assertIs(is_within(both, house) and is_within(both, far), True)
            self.assertIs(lone(both, house), None)
        if is_power_house(house):
            self.assertEqual(moved(house, -3, 0), house)

    def of_claims(self, makers):
        house, base = House(makers), full_base(makers)
        self.assertIs(is_true(("all", makers)), house.gap_count == 0)
        for count in range(1, 20):
            self.assertIs(is_true(("gap", makers, count)), count in house.gaps())
        if len(base) <= 4 and degree(base[-1]) <= 7:
            for claim in [("within", makers, base), ("within", base, makers)]:
                self.assertIs(is_paper_of(claim, paper_of(claim)), True)
        for claim in [("all", makers), ("met", makers, 1), ("met", makers, 7), ("made", makers, [0, 1, 1]), ("made", makers, makers[0])]:
            true = claim if is_true(claim) else contrary(claim)
            self.assertIs(is_true(true), True)
            self.assertIs(is_paper_of(true, paper_of(true)), True)
            self.assertIs(is_paper_of(contrary(true), paper_of(true)), False)
            self.assertIn((claim[0], contrary(claim)[0]), words())

    def of_desk(self, makers):
        house, desk = House(makers), Desk()
        names = ["f", "g", "h", "i"][:len(makers)]
        for name, one in zip(names, makers):
            self.assertEqual(desk.do(f"poly {name} {poly_word(one)}"), "-")
        desk.do_all(f"makers m {' '.join(names)}", "clock c m", "poly t 0,1", "claim a all m", "claim b gap m 1", "claim k made m t", "claim j joint m 1 -1")
        self.assertEqual(desk["m"], [told(one) for one in makers])
        self.assertEqual(desk["c"], house.clock())
        self.assertEqual(desk.do("gaps m"), " ".join([str(one) for one in house.gaps()]) or "-")
        self.assertEqual(desk.do("base m"), "; ".join([poly_word(one) for one in house.base()]))
        self.assertEqual([desk.do("even m") == "yes", desk.do("stop m 0") == "yes"], [is_even(house), is_stop(house, 0)])
        self.assertEqual(desk.do("meets m 1"), poly_word(times_at(house, 1)))
        if house.gap_count > 0:
            desk.do("roomof r m c")
            self.assertEqual(desk["r"], house.room())
            self.assertEqual([desk.do("ties r"), desk.do("holds r t")], [str(house.gap_count), "no"])
        for label in desk.labels:
            claim = desk.claim_of(label)
            self.assertEqual(desk.do("state " + label), str(is_true(claim)).lower())
            paper = paper_of(claim) if is_true(claim) else paper_of(contrary(claim))
            if paper is not None:
                desk.attach(label, paper)
                self.assertIs(desk.fits(label), True)
        again = Desk.again(desk.lines())
        self.assertEqual([again.do("states"), again.do("names"), again["m"]], [desk.do("states"), desk.do("names"), desk["m"]])

    def test_makers_of_greater_common_degrees(self):
        source = random.Random(990)
        for _ in range(10):
            inner = [0, source.randint(-2, 2), 1]
            makers = [put_in(one, inner) for one in small_makers(source, 2)]
            step = common_degree(makers)
            self.assertEqual(step % 2, 0)
            self.assertEqual(degree(inner_part(makers)), step)
            self.assertIs(is_true(("tied", makers)), True)
            for claim in [("tied", makers), ("kept", makers, [0, 1, 1]), ("gap", makers, 1), ("gap", makers, 3), ("beyond", [[0, 1]], makers)]:
                true = claim if is_true(claim) else contrary(claim)
                self.assertIs(is_paper_of(true, paper_of(true)), True)
                self.assertEqual(worth(makers[0], 1) == worth(makers[0], 2), paper_of(("joint", makers[:1], 1, 2)) is None and is_true(("joint", makers[:1], 1, 2)))


if __name__ == "__main__":
    unittest.main()
