"""Every example of the document for the files that there are, word for word.

Names stand for what they were in the last example that gave them, so all examples run one behind the other.
"""

import doctest
import unittest

EXAMPLES = r'''
>>> from fromplaces.ratios import Ratio
>>> [Ratio(4, -6), str(Ratio(1, 2) + 3), Ratio(1, 3).is_below(Ratio(2, 5))]
[Ratio(-2, 3), '7/2', True]

>>> from fromplaces.polys import degree, derived, divided, put_in, times, told, worth
>>> [degree([1, 0, 2, 0]), times([1, 1], [-1, 1]) == told([-1, 0, 1]), worth([1, Ratio(1, 2)], 4), put_in([0, 0, 1], [1, 1]) == told([1, 2, 1])]
[2, True, Ratio(3, 1), True]
>>> [derived([5, 1, 3]) == told([1, 6]), divided([1, 0, 1], [0, 2])]
[True, ([Ratio(0, 1), Ratio(1, 2)], [Ratio(1, 1)])]

>>> from fromplaces.parts import common, multiple, part_with
>>> [common([-1, 0, 1], [1, 2, 1]) == told([1, 1]), common([], [0]), multiple([-1, 0, 1], [2, 4, 2]) == told([-1, -1, 1, 1])]
[True, [], True]
>>> [part_with([0, 0, 2, -3, 1], [0, 4, -4, 1]) == told([0, 0, -2, 1]), part_with([1, 1], [5]) == told([1])]
[True, True]

>>> from fromplaces.solved import is_solution, kernel, solution, steps
>>> [steps([[0, 2, 4], [0, 3, 6]]) == [told([0, 1, 2])], kernel([[1, 2]], 2) == [told([1, Ratio(-1, 2)])], kernel([], 1), kernel([[5]], 1)]
[True, True, [[Ratio(1, 1)]], []]
>>> [solution([[1, 1], [1, -1]], [3, 1]) == told([2, 1]), solution([[1, 1], [2, 2]], [1, 3]), is_solution([[1, 1]], [2], [5, -3]), is_solution([[1, 1]], [2], [1])]
[True, None, True, False]

>>> from fromplaces.counts import common_count, gaps, greatest_gap, is_met, is_mirrored, least_counts, met
>>> [common_count([6, 4]), is_met([4, 6, 7], 9), met([6, 4], 12), least_counts([6, 10, 4, 7]), gaps([4, 6, 7])]
[2, False, [0, 4, 6, 8, 10, 12], [4, 6, 7], [1, 2, 3, 5, 9]]
>>> [greatest_gap([5, 3]), greatest_gap([1, 5]), is_mirrored([4, 6, 7]), is_mirrored([3, 4, 5])]
[7, None, True, False]

>>> from fromplaces.ways import a_way, is_way, lots_of_ways, turning_counts, ways
>>> [ways([2, 3], 6), a_way([2, 3], 6), a_way([4, 6], 9), is_way([2, 3], 6, (0, 2)), ways([5], 0)]
[[[0, 2], [3, 0]], [3, 0], None, True, [[0]]]
>>> [lots_of_ways([2, 3], 6), lots_of_ways([2, 3], 8), turning_counts([4, 6, 7]), turning_counts([3, 3]), turning_counts([5])]
[[[[0, 2]], [[3, 0]]], [[[1, 2], [4, 0]]], [12, 14], [3], []]

>>> from fromplaces.makers import degrees, is_makers, told_makers
>>> some = [[0, 0, 1], (0, -1, 0, 1, 0)]
>>> [is_makers(some), is_makers([[3]]), is_makers([]), degrees(some), len(told_makers(some)[1])]
[True, False, False, [2, 3], 4]

>>> from fromplaces.makings import is_making, lines_by, made_by, product_making, sum_making
>>> from fromplaces.polys import told
>>> five = [[(1, 2, 1), (2, 0, 1)]]
>>> [made_by(some, five) == told([0, -1, 0, 0, 0, 1]), is_making(some, [[(3, 0, 1)]]), is_making(some, [[], [(3, 1, 2)]]), lines_by(some, [[], [(0, 0, 7)]])]
[True, False, True, [[], [Ratio(7, 1)]]]

>>> [made_by(some, sum_making(some, five, [[(2, 0, 1)]], -1)) == told([0, 0, 0, -1, 0, 1]), made_by(some, product_making(some, five, [[(0, 0, 2)]])) == told([0, -2, 0, 0, 0, 2])]
[True, True]

>>> from fromplaces.inner import digits, outer, root_part
>>> [digits([0, 1, 1], [0, 0, 1]) == [told([0, 1]), told([1])], outer([1, 0, 2, 0, 1], [0, 0, 1]) == told([1, 2, 1]), outer([0, 1, 1], [0, 0, 1]), digits([0], [0, 1])]
[True, True, None, []]
>>> [root_part([1, 4, 6, 4, 1], 2) == told([0, 2, 1]), root_part([0, 1, 0, 1], 1) == told([0, 1]), root_part([0, 1, 0, 0, 1], 2), root_part([7, 4, 2], 2) == told([0, 2, 1])]
[True, True, None, True]

>>> from fromplaces.bases import base_makings, common_degree, full_base, inner_part, is_full_base, met_counts
>>> from fromplaces.ratios import Ratio
>>> pen, three, even = [[3, 0, 2], [0, -1, 0, 1]], [[0, 0, 0, 0, 1], [0, 0, 0, 0, 0, 0, 1], [0, -1, 0, 0, 0, 0, 0, 1]], [[1, 2, 1], [0, 4, 6, 4, 1]]
>>> [full_base(pen) == [[Ratio(0), Ratio(0), Ratio(1)], [Ratio(0), Ratio(-1), Ratio(0), Ratio(1)]], met_counts(three), is_full_base(three, [[0, 0, 1], three[2]]), full_base(even) == [[Ratio(0), Ratio(2), Ratio(1)]]]
[True, [2, 7], True, True]
>>> [common_degree(pen), common_degree(even), inner_part(even) == [Ratio(0), Ratio(2), Ratio(1)], inner_part(pen) == [Ratio(0), Ratio(1)], len(base_makings(three)), is_full_base(pen, pen)]
[1, 2, True, True, 2, False]

>>> from fromplaces.made import is_made, is_making_of, left, making_of, taken_to
>>> [left(pen, [0, 1, 0, 0, 1]) == [Ratio(0), Ratio(1)], is_made(pen, [0, -1, 0, 0, 0, 1]), is_made(even, [0, 0, 1]), is_made(pen, [7]), left(pen, [7])]
[True, True, False, True, []]
>>> [is_making_of(pen, [0, -1, 0, -1, 0, 2], [[(1, 2, 1), (0, 2, -2)]]), making_of(pen, [0, 1]), is_making_of(pen, [0, 0, 1], [[(0, 1, Ratio(1, 2)), (0, 0, Ratio(-3, 2))]]), taken_to(pen, 5) == [Ratio(0), Ratio(-1), Ratio(0), Ratio(0), Ratio(0), Ratio(1)], taken_to(pen, 1)]
[True, None, True, True, None]

>>> from fromplaces.ratios import Ratio
>>> from fromplaces.rooms import Room, is_room, led_room, meet_room, sum_room, within
>>> place, stop = Room([-1, 0, 1], [[0, 0, 1], [0, -1, 0, 1]]), Room([0, 0, 0, 2], [[0, 0, 1]])
>>> [place.rows() == [[Ratio(0), Ratio(1)]], place.ties, place.holds([0, 1, 0, 0, 1]), place.holds([5, -3, 0, 3]), stop.heads(), stop.size(), stop.rest([1, 0, 0, 4])]
[True, 1, False, True, [0, 2], 2, [Ratio(1, 1)]]
>>> [Room([0, 0, 0, 1], [[0, 1]]).is_all, is_room([0, 0, 1], [[0, 1]]), is_room([1, 0, 0, 1], [[1, 0, 0], [0, 0, 1]]), place]
[True, True, False, Room([Ratio(-1, 1), Ratio(0, 1), Ratio(1, 1)], [[Ratio(1, 1)]])]
>>> [within(Room([0, 0, 0, 1], []), stop), meet_room(stop, Room([0, 0, 0, 1], [])).heads(), sum_room(stop, Room([0, 0, 0, 1], [[0, 1]])).ties, led_room(stop, [0, 0, 1]).heads()]
[True, [0], 0, [0]]

>>> from fromplaces.kept import is_kept_apart, kept_apart, local_made
>>> makers = [[0, 0, 1], [0, -1, 0, 1]]
>>> [is_kept_apart(makers, [0, 1], place), is_kept_apart(makers, [0, 1], stop), is_kept_apart(makers, [0, 1], kept_apart(makers, [0, 1])), kept_apart(makers, [7, 0, -3])]
[True, False, True, None]
>>> [local_made(makers, [0, 1], [-1, 0, 1]), local_made(makers, [0, 1], [-2, 1]), local_made([[0, 0, 1]], [0, 1], [1, 0, 1])]
[False, True, False]

>>> from fromplaces.houses import House
>>> from fromplaces.rooms import Room
>>> cross, stop = House([[0, 0, 1], [0, -1, 0, 1]]), House([[0, 0, 0, 1], [1, 0, 2]])
>>> [cross.gaps(), cross.gap_count, cross.holds([0, -1, 0, 0, 0, 1]), cross.left([5, 3, 0, 0, 1]), cross.clock()]
[[1], 1, True, [Ratio(0, 1), Ratio(3, 1)], [Ratio(-1, 1), Ratio(0, 1), Ratio(1, 1)]]
>>> [cross.room() == Room([-1, 0, 1], []), House([[0, 1], [0, 0, 2]]).room(), stop == House([[0, 0, 0, -1], [0, 0, 1, 1]])]
[True, None, True]
>>> stop
House([[Ratio(0, 1), Ratio(0, 1), Ratio(1, 1)], [Ratio(0, 1), Ratio(0, 1), Ratio(0, 1), Ratio(1, 1)]])

>>> from fromplaces.clocks import house_of, is_clock_of, least_clock
>>> flat = Room([0, 0, 0, 1], [[0, 0, 1]])
>>> [house_of(flat) == stop, least_clock(flat), is_clock_of(cross, [0, -1, 0, 1]), is_clock_of(cross, [0, 0, 1]), is_clock_of(cross, [])]
[True, [Ratio(0, 1), Ratio(0, 1), Ratio(1, 1)], True, False, False]

>>> from fromplaces.houses import House
>>> from fromplaces.times import bundle, bundle_gaps, is_parted, is_plain_time, same_place, times_at
>>> cross, cusp = House([[0, 0, 1], [0, -1, 0, 1]]), House([[0, 0, 1], [0, 0, 0, 1]])
>>> [[str(one) for one in times_at(cross, 1)], same_place(cross, 1, -1), is_plain_time(cross, 0), bundle(cross, -1) == times_at(cross, 1), [str(one) for one in bundle(cross, 5)], bundle_gaps(cross, 1), bundle_gaps(cross, 5), is_parted(cross, [-1, 0, 1]), is_parted(cross, [-1, 1])]
[['-1', '0', '1'], True, True, True, ['1'], 1, 0, True, False]

>>> from fromplaces.stops import clock_times, crossings, is_stop, stop_part, weight
>>> [[str(one) for one in stop_part(cusp)], is_stop(cusp, 0), is_stop(cross, 1), weight(cusp, 0), weight(cusp, 1), [(str(one), often) for one, often in clock_times(cusp)], crossings(cusp)]
[['0', '1'], True, False, 2, 1, [('0', 2)], []]
>>> [[(str(one), often) for one, often in clock_times(cross)], [[str(one) for one in some] for some in crossings(cross)]]
[[('-1', 1), ('1', 1)], [['-1', '1']]]

>>> from fromplaces.together import is_lone, is_within, joined, lone, met_house
>>> loop, stop = House([[0, 0, 1], [0, -1, 0, 1]]), House([[0, 0, 1], [0, 0, 0, 1]])
>>> [joined(loop, stop).gaps(), met_house(loop, stop).gaps(), met_house(loop, stop) == House([[0, 0, 1], [0, 0, 0, -1, 0, 1]]), is_within(met_house(loop, stop), loop)]
[[], [1, 3], True, True]
>>> [is_within(loop, stop), is_lone(loop, stop, [0, -1, 0, 1]), is_lone(loop, stop, [0, 0, 1]), is_lone(loop, stop, lone(loop, stop)), lone(loop, loop)]
[False, True, False, True, None]

>>> from fromplaces.moves import is_even, is_moved, is_power_house, moved, power_house
>>> [moved(loop, 2, 1).clock() == told([0, 1, 1]), is_moved(loop, House([[0, 1, 1], [0, -1, 0, 1]]), 2, 1), is_moved(stop, stop, -3, 0), is_moved(stop, stop, 1, 1)]
[True, True, True, False]
>>> [power_house([2, 3]) == stop, is_power_house(loop), is_even(loop), is_even(power_house([3, 4, 5])), power_house([3, 4]).gaps()]
[True, False, True, False, [1, 2, 5]]

>>> from fromplaces.ratios import Ratio
>>> from fromplaces.rooms import Room
>>> from fromplaces.texts import is_of_sort, written
>>> [written("number", Ratio(-3, 2)), written("poly", [1, 0, 2, 0]), written("room", Room([-2, 0, 2], [])), is_of_sort("makers", [[1], [0, 1]])]
['number -3/2\n', 'poly 1 0 2\n', 'clock -1 0 1\nrow 0 1\n', False]

>>> from fromplaces.readers import read
>>> [read("number 1/2\n"), read("clock -1 0 1\nrow 0 1\n") == ("room", Room([-1, 0, 1], []))]
[('number', Ratio(1, 2)), True]
>>> read("making\nline\ntimes 1 1 1\nline\n")
('making', [[(1, 1, Ratio(1, 1))], []])

>>> from fromplaces.claims import contrary, is_paper_of, is_true
>>> makers, crossed = [[0, 0, 1], [0, -1, 0, 1]], Room([-1, 0, 1], [])
>>> [is_paper_of(("made", makers, [0, -1, 0, 0, 0, 1]), [[(1, 2, 1), (0, 2, 1)]]), is_paper_of(("tied", makers), crossed), is_true(("joint", makers, 1, -1)), is_paper_of(("gap", makers, 1), crossed)]
[True, True, True, True]
>>> [contrary(("joint", makers, 1, 2)) == ("apart", makers, 1, 2), is_paper_of(("beyond", [[0, 0, 1], [0, 1]], makers), (1, crossed)), is_paper_of(("within", [[0, 0, 0, 0, 1]], makers), [[[(1, 1, 1)]]]), is_paper_of(("apart", makers, 1, 2), 1)]
[True, True, True, True]

>>> from fromplaces.commands import is_command, is_deed
>>> [is_command("poly f 1,0,1/2"), is_command("poly f 1, 1"), is_deed("claim k made m f"), is_command("claim k met m 3"), is_deed("gaps m"), is_command("room r c f g")]
[True, False, True, True, False, True]

>>> from fromplaces.desk import Desk
>>> desk = Desk()
>>> desk.do_all("poly f 0,0,1", "poly g 0,-1,0,1", "makers m f g", "poly h 0,-1,0,0,0,1", "claim k made m h", "claim a all m", "gaps m", "clock c m", "show c", "counts m")
['-', '-', '-', '-', 'k true', 'a false', '1', '-', '-1,0,1', '2 3']
>>> desk.do_all("roomof r m c", "show r", "ties r", "holds r h", "poly t 0,1", "add m t", "states", "undo", "meets m 1", "change h 1 0", "show m")
['-', '-1,0,1 | 1', '1', 'yes', '-', 'a true', 'a true, k true', 'add m t', '-1,0,1', 'k false', '0,0,1; 0,-1,0,1']
'''


class Examples(unittest.TestCase):

    def test_examples(self):
        test = doctest.DocTestParser().get_doctest(EXAMPLES, {}, "DOC.md", "DOC.md", 0)
        told = []
        results = doctest.DocTestRunner(verbose=False).run(test, out=told.append)
        self.assertEqual("".join(told), "")
        self.assertEqual(results.failed, 0)
        self.assertEqual(results.attempted, EXAMPLES.count(">>> "))


if __name__ == "__main__":
    unittest.main()
