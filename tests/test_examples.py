"""Every example of the document for the files that there are, word for word.

Names stand for what they were in the last example that gave them, so all examples run one behind the other.
"""

import doctest
import unittest

EXAMPLES = '''
>>> from fromplaces.ratios import Ratio
>>> [Ratio(4, -6), str(Ratio(1, 2) + 3), Ratio(1, 3).is_below(Ratio(2, 5))]
[Ratio(-2, 3), '7/2', True]

>>> from fromplaces.polys import degree, derived, divided, put_in, times, told, worth
>>> [degree([1, 0, 2, 0]), times([1, 1], [-1, 1]) == told([-1, 0, 1]), worth([1, Ratio(1, 2)], 4), put_in([0, 0, 1], [1, 1]) == told([1, 2, 1])]
[2, True, Ratio(3, 1), True]
>>> [derived([5, 1, 3]) == told([1, 6]), divided([1, 0, 1], [0, 2])]
[True, ([Ratio(0, 1), Ratio(1, 2)], [Ratio(1, 1)])]

>>> from fromplaces.parts import common, multiple, part_with
>>> [common([-1, 0, 1], [1, 2, 1]) == told([1, 1]), common([], [0]), multiple([-1, 0, 1], [2, 4, 2]) == told([-1, -1, 1, 1])]
[True, [], True]
>>> [part_with([0, 0, 2, -3, 1], [0, 4, -4, 1]) == told([0, 0, -2, 1]), part_with([1, 1], [5]) == told([1])]
[True, True]

>>> from fromplaces.solved import is_solution, kernel, solution, steps
>>> [steps([[0, 2, 4], [0, 3, 6]]) == [told([0, 1, 2])], kernel([[1, 2]], 2) == [told([1, Ratio(-1, 2)])], kernel([], 1), kernel([[5]], 1)]
[True, True, [[Ratio(1, 1)]], []]
>>> [solution([[1, 1], [1, -1]], [3, 1]) == told([2, 1]), solution([[1, 1], [2, 2]], [1, 3]), is_solution([[1, 1]], [2], [5, -3]), is_solution([[1, 1]], [2], [1])]
[True, None, True, False]

>>> from fromplaces.counts import common_count, gaps, greatest_gap, is_met, is_mirrored, least_counts, met
>>> [common_count([6, 4]), is_met([4, 6, 7], 9), met([6, 4], 12), least_counts([6, 10, 4, 7]), gaps([4, 6, 7])]
[2, False, [0, 4, 6, 8, 10, 12], [4, 6, 7], [1, 2, 3, 5, 9]]
>>> [greatest_gap([5, 3]), greatest_gap([1, 5]), is_mirrored([4, 6, 7]), is_mirrored([3, 4, 5])]
[7, None, True, False]

>>> from fromplaces.ways import a_way, is_way, lots_of_ways, turning_counts, ways
>>> [ways([2, 3], 6), a_way([2, 3], 6), a_way([4, 6], 9), is_way([2, 3], 6, (0, 2)), ways([5], 0)]
[[[0, 2], [3, 0]], [3, 0], None, True, [[0]]]
>>> [lots_of_ways([2, 3], 6), lots_of_ways([2, 3], 8), turning_counts([4, 6, 7]), turning_counts([3, 3]), turning_counts([5])]
[[[[0, 2]], [[3, 0]]], [[[1, 2], [4, 0]]], [12, 14], [3], []]
'''


class Examples(unittest.TestCase):

    def test_examples(self):
        test = doctest.DocTestParser().get_doctest(EXAMPLES, {}, "DOC.md", "DOC.md", 0)
        told = []
        results = doctest.DocTestRunner(verbose=False).run(test, out=told.append)
        self.assertEqual("".join(told), "")
        self.assertEqual(results.failed, 0)
        self.assertEqual(results.attempted, EXAMPLES.count(">>> "))


if __name__ == "__main__":
    unittest.main()
