"""The order of point 5 and the ring of point 6."""

import copy
import inspect
import itertools
import unittest

from yardturn.errors import NoOrder
from yardturn.turns import order, ring
from yards import GREAT, SMALL, all_needs, chain, full_yard, has_ring, is_ring, mixed_yards


def is_order(row, jobs, needs):
    """All jobs, each once, every job behind all jobs that it needs itself."""
    if sorted(row) != sorted(jobs):
        return False
    place = {job: spot for spot, job in enumerate(row)}
    return all(place[other] < place[first] for first, other in needs)


def keeps_the_rule(row, jobs, needs):
    """At each place stands the least of the jobs that can come next."""
    for spot, job in enumerate(row):
        put = row[:spot]
        ready = [
            other for other in jobs
            if other not in put and all(need in put for first, need in needs if first == other)
        ]
        if job != min(ready):
            return False
    return True


class Order(unittest.TestCase):
    def test_ordinary(self):
        self.assertEqual(order([1, 2, 3, 4], [(1, 3), (3, 2), (4, 1)]), [2, 3, 1, 4])
        self.assertEqual(order([1, 2, 3, 4, 5], [(1, 4), (2, 4), (4, 5)]), [3, 5, 4, 1, 2])

    def test_no_jobs(self):
        self.assertEqual(order([], []), [])

    def test_one_job(self):
        self.assertEqual(order([7], []), [7])

    def test_no_needs(self):
        self.assertEqual(order([10, 9, -2, 0, -10, 100], []), [-10, -2, 0, 9, 10, 100])

    def test_a_job_that_came_late_is_less_than_those_that_wait(self):
        # With 5 in the row 1 can come, and goes ahead of 6 and 7, which could have come all the time.
        self.assertEqual(order([7, 6, 5, 1], [(1, 5)]), [5, 1, 6, 7])
        self.assertEqual(order([9, 8, 7, 3, 2, 1], [(1, 8), (2, 1), (3, 7)]), [7, 3, 8, 1, 2, 9])

    def test_the_least_at_each_place_not_the_least_at_the_end(self):
        # Whoever fills the row from its end tells 3, 1, 2 here.
        self.assertEqual(order([1, 2, 3], [(1, 3)]), [2, 3, 1])

    def test_not_day_by_day(self):
        # 2 needs 1 and 3 needs nothing, yet 2 is the lesser once it can come.
        self.assertEqual(order([1, 2, 3], [(2, 1)]), [1, 2, 3])

    def test_jobs_in_any_order(self):
        for jobs in itertools.permutations([1, 2, 3, 4, 5]):
            self.assertEqual(order(list(jobs), [(1, 4), (2, 4), (4, 5)]), [3, 5, 4, 1, 2])

    def test_needs_in_any_order(self):
        for needs in itertools.permutations([(1, 4), (2, 4), (4, 5), (2, 1)]):
            self.assertEqual(order([1, 2, 3, 4, 5], list(needs)), [3, 5, 4, 1, 2])

    def test_a_pair_more_than_once_counts_once(self):
        needs = [(1, 3), (2, 1), (1, 3), (1, 3), (2, 1)]
        self.assertEqual(order([1, 2, 3, 4], needs), [3, 1, 2, 4])

    def test_ways_that_meet_again(self):
        self.assertEqual(order([1, 2, 3, 4], [(1, 2), (1, 3), (2, 4), (3, 4)]), [4, 2, 3, 1])

    def test_long_chain(self):
        # The last two lie beyond the bounds, and nothing is refused for that.
        for length in (100, 110, 150, 200):
            jobs = list(range(1, length + 1))
            for needs in (chain(length), chain(length)[::-1]):
                for told in (jobs, jobs[::-1]):
                    self.assertEqual(order(told, needs), jobs)

    def test_long_chain_from_the_greatest_to_the_least(self):
        for length in (100, 110, 150):
            jobs = list(range(1, length + 1))
            needs = [(job, job + 1) for job in range(1, length)]
            for told in (needs, needs[::-1]):
                self.assertEqual(order(jobs, told), jobs[::-1])

    def test_negative_numbers_and_nought(self):
        self.assertEqual(order([1, 0, -1, -2], [(-2, 0), (0, 1)]), [-1, 1, 0, -2])
        self.assertEqual(order([0, -5], [(-5, 0)]), [0, -5])

    def test_sixty_figures(self):
        jobs = [0, GREAT, SMALL, GREAT - 1, SMALL + 1]
        self.assertEqual(order(jobs, []), [SMALL, SMALL + 1, 0, GREAT - 1, GREAT])
        needs = [(SMALL, GREAT), (0, GREAT - 1), (GREAT, 0)]
        self.assertEqual(order(jobs, needs), [SMALL + 1, GREAT - 1, 0, GREAT, SMALL])

    def test_more_than_sixty_figures(self):
        self.assertEqual(order([10**70, 10**70 + 1, -10**70], [(-10**70, 10**70 + 1)]), [10**70, 10**70 + 1, -10**70])

    def test_full_yard(self):
        jobs, needs = full_yard()
        self.assertEqual((len(jobs), len(needs)), (110, 300))
        self.assertEqual(order(jobs[::-1], needs), jobs)
        turned = [(-first, -other) for first, other in needs]
        self.assertEqual(order([-job for job in jobs], turned), [-job for job in jobs])

    def test_beyond_the_bounds(self):
        jobs = list(range(130))
        needs = [(job, job - step) for step in (1, 2, 3) for job in jobs if job >= step]
        self.assertGreater(len(needs), 300)
        self.assertEqual(order(jobs[::-1], needs), jobs)


class OrderRefused(unittest.TestCase):
    def test_a_job_that_needs_itself(self):
        with self.assertRaises(NoOrder):
            order([1], [(1, 1)])
        with self.assertRaises(NoOrder):
            order([1, 2, 3], [(3, 2), (2, 2)])

    def test_rings(self):
        for needs in ([(1, 2), (2, 1)], [(1, 2), (2, 3), (3, 1)], [(4, 1), (1, 2), (2, 1), (2, 3)]):
            with self.subTest(needs=needs):
                with self.assertRaises(NoOrder):
                    order([1, 2, 3, 4], needs)

    def test_long_ring(self):
        with self.assertRaises(NoOrder):
            order(list(range(1, 111)), chain(110) + [(1, 110)])

    def test_needs_to_and_from_different_jobs_are_no_ring(self):
        self.assertEqual(order([1, 2, 3], [(1, 2), (3, 2), (1, 3)]), [2, 3, 1])


class Ring(unittest.TestCase):
    def assert_ring(self, jobs, needs, members):
        row = ring(jobs, needs)
        self.assertTrue(is_ring(row, jobs, needs), (row, needs))
        self.assertEqual(sorted(row), sorted(members))

    def test_none(self):
        self.assertIsNone(ring([1, 2, 3], []))
        self.assertIsNone(ring([1, 2, 3], [(3, 2), (2, 1), (3, 1)]))
        self.assertIsNone(ring([1, 2, 3, 4], [(1, 2), (1, 3), (2, 4), (3, 4)]))

    def test_none_without_jobs(self):
        self.assertIsNone(ring([], []))

    def test_none_in_long_chains_and_a_full_yard(self):
        jobs, needs = full_yard()
        self.assertIsNone(ring(jobs, needs))
        for length in (100, 110, 150):
            for needs in (chain(length), chain(length)[::-1]):
                self.assertIsNone(ring(list(range(1, length + 1)), needs))

    def test_a_job_that_needs_itself_is_a_ring_alone(self):
        self.assertEqual(ring([1], [(1, 1)]), [1])
        self.assertEqual(ring([0], [(0, 0)]), [0])
        self.assertEqual(ring([1, 2, 3], [(3, 2), (2, 2), (2, 1)]), [2])

    def test_two(self):
        self.assert_ring([1, 2], [(1, 2), (2, 1)], [1, 2])
        self.assert_ring([3, 2, 1], [(3, 1), (1, 3)], [1, 3])

    def test_the_way_of_the_needs(self):
        # Of these three only one way round is a ring; it may begin anywhere.
        told = ring([1, 2, 3], [(1, 3), (3, 2), (2, 1)])
        self.assertIn(told, ([1, 3, 2], [3, 2, 1], [2, 1, 3]))

    def test_many_and_all(self):
        for length in (3, 10, 100, 110, 150):
            jobs = list(range(1, length + 1))
            needs = chain(length) + [(1, length)]
            self.assert_ring(jobs, needs, jobs)
            self.assert_ring(jobs[::-1], needs[::-1], jobs)
            self.assert_ring(jobs + [0, -1], needs, jobs)

    def test_a_job_on_the_way_into_a_ring_is_not_of_it(self):
        needs = [(1, 2), (2, 3), (3, 4), (4, 2), (3, 5)]
        for jobs in itertools.permutations([1, 2, 3, 4, 5]):
            self.assert_ring(list(jobs), needs, [2, 3, 4])

    def test_a_long_way_into_a_ring(self):
        jobs = list(range(1, 111))
        for numbers in (jobs, jobs[::-1]):
            needs = list(zip(numbers, numbers[1:])) + [(numbers[-1], numbers[-3])]
            self.assert_ring(jobs, needs, numbers[-3:])

    def test_what_a_ring_needs_is_not_of_it(self):
        self.assert_ring([1, 2, 3, 4], [(3, 4), (4, 3), (3, 1), (4, 2), (2, 1)], [3, 4])

    def test_several_rings(self):
        jobs = [1, 2, 3, 4, 5, 6]
        needs = [(1, 2), (2, 1), (3, 4), (4, 5), (5, 3), (6, 6)]
        for turned in itertools.permutations(needs):
            row = ring(jobs, list(turned))
            self.assertTrue(is_ring(row, jobs, needs), row)
            self.assertIn(sorted(row), ([1, 2], [3, 4, 5], [6]))

    def test_rings_that_share_a_job(self):
        jobs = [1, 2, 3, 4, 5]
        needs = [(1, 2), (2, 1), (1, 3), (3, 4), (4, 1), (4, 4), (5, 1)]
        row = ring(jobs, needs)
        self.assertTrue(is_ring(row, jobs, needs), row)
        self.assertIn(sorted(row), ([1, 2], [1, 3, 4], [4]))

    def test_rings_with_a_need_between(self):
        jobs = [1, 2, 3, 4]
        needs = [(1, 2), (2, 1), (2, 3), (3, 4), (4, 3)]
        row = ring(jobs, needs)
        self.assertTrue(is_ring(row, jobs, needs), row)

    def test_a_pair_more_than_once(self):
        self.assert_ring([1, 2, 3], [(1, 2), (1, 2), (2, 1), (2, 1), (3, 1)], [1, 2])

    def test_negative_numbers_and_sixty_figures(self):
        jobs = [GREAT, 0, SMALL, GREAT - 1, -7]
        needs = [(GREAT, SMALL), (SMALL, 0), (0, GREAT), (-7, GREAT), (SMALL, GREAT - 1)]
        self.assert_ring(jobs, needs, [GREAT, 0, SMALL])

    def test_full_yard_with_one_need_back(self):
        jobs, needs = full_yard()
        needs = needs[:-1] + [(-55, 54)]
        row = ring(jobs, needs)
        self.assertTrue(is_ring(row, jobs, needs), row)
        self.assertIn(-55, row)
        self.assertIn(54, row)


class EveryListOfNeeds(unittest.TestCase):
    """All needs that three jobs can have, against the words of points 5 and 6."""

    jobs = [2, -1, 0]

    def test_order(self):
        for needs in all_needs(self.jobs):
            # The rule takes the least job at each place, so of all orders the row that is least as a list.
            rows = [list(row) for row in itertools.permutations(self.jobs) if is_order(row, self.jobs, needs)]
            if rows:
                self.assertEqual(order(self.jobs, needs), min(rows), needs)
            else:
                self.assertRaises(NoOrder, order, self.jobs, needs)

    def test_ring(self):
        for needs in all_needs(self.jobs):
            rows = [list(row) for size in (1, 2, 3) for row in itertools.permutations(self.jobs, size)]
            rings = [row for row in rows if is_ring(row, self.jobs, needs)]
            self.assertIn(ring(self.jobs, needs), rings or [None], needs)


class YardsOfManyShapes(unittest.TestCase):
    def check(self, jobs, needs):
        row = ring(jobs, needs)
        if has_ring(jobs, needs):
            self.assertTrue(is_ring(row, jobs, needs), (jobs, needs, row))
            self.assertRaises(NoOrder, order, jobs, needs)
        else:
            self.assertIsNone(row, (jobs, needs))
            told = order(jobs, needs)
            self.assertTrue(is_order(told, jobs, needs), (jobs, needs, told))
            self.assertTrue(keeps_the_rule(told, jobs, needs), (jobs, needs, told))

    def test_small(self):
        for jobs, needs in mixed_yards(400, 8, 12):
            self.check(jobs, needs)

    def test_large(self):
        for jobs, needs in mixed_yards(12, 110, 300):
            self.check(jobs, needs)


class WhatIsHandedIn(unittest.TestCase):
    jobs = [3, 1, 5, 2, 4]

    def unchanged(self, function, needs):
        jobs = list(self.jobs)
        ahead = copy.deepcopy((jobs, needs))
        answer = function(jobs, needs)
        self.assertEqual((jobs, needs), ahead)
        # An answer that shared a list with its caller would change with the caller's.
        if answer is not None:
            answer.append(0)
            self.assertEqual((jobs, needs), ahead)
            self.assertEqual(function(jobs, needs) + [0], answer)

    def test_order(self):
        self.unchanged(order, [(3, 1), (5, 4), (3, 1), (1, 4)])
        self.unchanged(order, [])

    def test_order_of_sorted_jobs_is_another_list(self):
        jobs = [1, 2, 3]
        order(jobs, []).append(4)
        self.assertEqual(jobs, [1, 2, 3])
        order([], []).append(4)
        self.assertEqual(order([], []), [])

    def test_ring(self):
        self.unchanged(ring, [(3, 1), (5, 4), (3, 1), (1, 4)])
        self.unchanged(ring, [(3, 1), (5, 4), (3, 1), (4, 5), (1, 4)])
        self.unchanged(ring, [(1, 3), (3, 5), (5, 2), (2, 4), (4, 1)])


class Interface(unittest.TestCase):
    def test_names_of_arguments(self):
        for function in (order, ring):
            self.assertEqual(list(inspect.signature(function).parameters), ["jobs", "needs"])

    def test_called_by_name(self):
        self.assertEqual(order(needs=[(1, 2)], jobs=[1, 2]), [2, 1])
        self.assertEqual(ring(needs=[(1, 1)], jobs=[1, 2]), [1])

    def test_answers_are_lists_of_whole_numbers(self):
        for answer in (order([2, 1], [(1, 2)]), ring([2, 1], [(1, 2), (2, 1)])):
            self.assertIs(type(answer), list)
            self.assertEqual([type(job) for job in answer], [int, int])
        self.assertIs(type(order([], [])), list)


if __name__ == "__main__":
    unittest.main()
