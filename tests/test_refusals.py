"""What order, ring and days refuse: Twice, NoJob and NoOrder, the first of these that holds."""

import copy
import itertools
import unittest

from yardturn.dayrows import days
from yardturn.errors import NoJob, NoOrder, Twice, YardError
from yardturn.turns import order, ring
from yards import GREAT, SMALL, all_needs, chain, is_ring, mixed_yards

ALL_THREE = (order, ring, days)


class Refusals(unittest.TestCase):
    def assert_refused(self, functions, jobs, needs, refusal):
        ahead = copy.deepcopy((jobs, needs))
        for function in functions:
            with self.subTest(function=function.__name__, jobs=jobs, needs=needs):
                with self.assertRaises(YardError) as taken:
                    function(jobs, needs)
                self.assertIs(type(taken.exception), refusal)
                self.assertIsInstance(taken.exception, ValueError)
                self.assertEqual((jobs, needs), ahead)

    def test_twice(self):
        for jobs in ([1, 1], [1, 2, 1], [2, 1, 1], [3, 2, 1, 0, 3], [0, 0], [-1, 1, -1], [5, 5, 5], [1, 2, 2, 1]):
            self.assert_refused(ALL_THREE, jobs, [], Twice)

    def test_twice_with_needs_that_are_right(self):
        self.assert_refused(ALL_THREE, [1, 2, 1], [(1, 2)], Twice)
        self.assert_refused(ALL_THREE, [1, 2, 2], [(1, 2)], Twice)

    def test_twice_with_sixty_figures(self):
        # Made twice, so that the two are equal and not one and the same.
        self.assert_refused(ALL_THREE, [GREAT, SMALL, int(str(GREAT))], [], Twice)
        self.assert_refused(ALL_THREE, [SMALL, GREAT, int(str(SMALL))], [], Twice)

    def test_twice_at_both_ends_of_a_full_list(self):
        self.assert_refused(ALL_THREE, list(range(109)) + [0], [], Twice)

    def test_a_number_and_its_opposite_are_two_jobs(self):
        self.assertEqual(order([1, -1, 0], []), [-1, 0, 1])
        self.assertIsNone(ring([GREAT, SMALL], []))
        self.assertEqual(days([GREAT, SMALL], []), [[SMALL, GREAT]])

    def test_unknown_on_the_first_side(self):
        self.assert_refused(ALL_THREE, [1, 2, 3], [(4, 1)], NoJob)
        self.assert_refused(ALL_THREE, [1, 2, 3], [(2, 1), (3, 2), (0, 1)], NoJob)

    def test_unknown_on_the_second_side(self):
        self.assert_refused(ALL_THREE, [1, 2, 3], [(1, 4)], NoJob)
        self.assert_refused(ALL_THREE, [1, 2, 3], [(2, 1), (3, 2), (1, 0)], NoJob)

    def test_unknown_on_both_sides(self):
        self.assert_refused(ALL_THREE, [1, 2, 3], [(4, 5)], NoJob)
        self.assert_refused(ALL_THREE, [1, 2, 3], [(4, 4)], NoJob)

    def test_unknown_without_jobs(self):
        self.assert_refused(ALL_THREE, [], [(1, 2)], NoJob)
        self.assert_refused(ALL_THREE, [], [(0, 0)], NoJob)

    def test_unknown_in_any_place(self):
        right = [(2, 1), (3, 2), (3, 1)]
        for place, wrong in itertools.product(range(4), ((-1, 1), (1, -1))):
            self.assert_refused(ALL_THREE, [1, 2, 3], right[:place] + [wrong] + right[place:], NoJob)

    def test_unknown_with_sixty_figures(self):
        self.assert_refused(ALL_THREE, [GREAT, 1], [(1, GREAT - 1)], NoJob)
        self.assert_refused(ALL_THREE, [GREAT, 1], [(SMALL, 1)], NoJob)

    def test_twice_and_unknown_is_twice(self):
        self.assert_refused(ALL_THREE, [1, 2, 1], [(4, 1)], Twice)
        self.assert_refused(ALL_THREE, [1, 2, 1], [(1, 4)], Twice)
        self.assert_refused(ALL_THREE, [1, 1], [(5, 5)], Twice)

    def test_twice_where_there_is_a_ring(self):
        self.assert_refused(ALL_THREE, [1, 2, 1], [(1, 2), (2, 1)], Twice)
        self.assert_refused(ALL_THREE, [1, 2, 2], [(1, 1)], Twice)

    def test_unknown_where_there_is_a_ring(self):
        for wrong in ((9, 1), (1, 9), (9, 9)):
            self.assert_refused(ALL_THREE, [1, 2], [(1, 2), (2, 1), wrong], NoJob)
            self.assert_refused(ALL_THREE, [1, 2], [wrong, (1, 1)], NoJob)

    def test_a_ring_of_unknown_numbers(self):
        self.assert_refused(ALL_THREE, [1, 2], [(8, 9), (9, 8)], NoJob)

    def test_all_of_them_is_twice(self):
        self.assert_refused(ALL_THREE, [1, 2, 1], [(1, 2), (2, 1), (1, 9)], Twice)

    def test_a_ring_is_no_order(self):
        for needs in ([(1, 1)], [(1, 2), (2, 1)], [(3, 1), (1, 2), (2, 1)], [(2, 3), (3, 1), (1, 2)]):
            self.assert_refused((order, days), [3, 1, 2], needs, NoOrder)

    def test_a_ring_of_all_of_a_full_list_is_no_order(self):
        self.assert_refused((order, days), list(range(1, 111)), chain(110) + [(1, 110)], NoOrder)

    def test_ring_does_not_refuse_a_ring(self):
        for needs in ([(1, 1)], [(1, 2), (2, 1)], [(3, 1), (1, 2), (2, 1)]):
            self.assertTrue(is_ring(ring([3, 1, 2], needs), [3, 1, 2], needs))

    def test_a_pair_more_than_once_is_not_refused(self):
        self.assertEqual(order([1, 2], [(1, 2), (1, 2)]), [2, 1])
        self.assertIsNone(ring([1, 2], [(1, 2), (1, 2)]))
        self.assertEqual(days([1, 2], [(1, 2), (1, 2)]), [[2], [1]])


class NoOrderJustWhereThereIsARing(unittest.TestCase):
    def check(self, jobs, needs):
        for function in (order, days):
            try:
                function(jobs, needs)
                refused = False
            except NoOrder:
                refused = True
            self.assertEqual(refused, ring(jobs, needs) is not None, (function.__name__, jobs, needs))

    def test_every_list_of_needs_of_three_jobs(self):
        for needs in all_needs([2, -1, 0]):
            self.check([2, -1, 0], needs)

    def test_yards_of_many_shapes(self):
        for jobs, needs in mixed_yards(200, 8, 12):
            self.check(jobs, needs)


if __name__ == "__main__":
    unittest.main()
