"""The days of point 7."""

import copy
import inspect
import itertools
import unittest

from yardturn.dayrows import days
from yardturn.errors import NoOrder
from yards import GREAT, SMALL, all_needs, chain, full_yard, has_ring, mixed_yards


def days_by_steps(jobs, needs):
    """Each job on the day behind the last of what it needs, the first day where it needs nothing."""
    day_of = {job: 1 for job in jobs}
    # A day is at most as late as there are jobs, so as many rounds settle all of them.
    for _ in jobs:
        for first, other in needs:
            day_of[first] = max(day_of[first], day_of[other] + 1)
    last = max(day_of.values(), default=0)
    return [sorted(job for job in jobs if day_of[job] == day) for day in range(1, last + 1)]


class Days(unittest.TestCase):
    def test_ordinary(self):
        needs = [(3, 1), (3, 2), (4, 3), (5, 2)]
        self.assertEqual(days([1, 2, 3, 4, 5], needs), [[1, 2], [3, 5], [4]])

    def test_no_jobs(self):
        self.assertEqual(days([], []), [])

    def test_one_job(self):
        self.assertEqual(days([7], []), [[7]])

    def test_no_needs(self):
        self.assertEqual(days([3, 1, 2], []), [[1, 2, 3]])

    def test_behind_the_last_of_what_it_needs(self):
        # 5 needs one job of the first day and one of the third, so it waits for the fourth.
        needs = [(2, 1), (3, 2), (5, 1), (5, 3), (4, 1)]
        self.assertEqual(days([1, 2, 3, 4, 5], needs), [[1], [2, 4], [3], [5]])

    def test_as_early_as_can_be(self):
        # 9 needs nothing, so it is of the first day though nothing waits for it.
        self.assertEqual(days([1, 2, 3, 9], [(3, 2), (2, 1)]), [[1, 9], [2], [3]])

    def test_needs_of_the_same_day_do_not_count_as_done(self):
        self.assertEqual(days([1, 2], [(2, 1)]), [[1], [2]])
        self.assertEqual(days([1, 2], [(1, 2)]), [[2], [1]])

    def test_from_the_least_to_the_greatest_within_a_day(self):
        jobs = [10, 9, -2, 0, -10, 100]
        self.assertEqual(days(jobs, []), [[-10, -2, 0, 9, 10, 100]])
        needs = [(10, 0), (9, 0), (-2, 0), (-10, 0)]
        self.assertEqual(days(jobs, needs), [[0, 100], [-10, -2, 9, 10]])

    def test_jobs_in_any_order(self):
        for jobs in itertools.permutations([1, 2, 3, 4, 5]):
            told = days(list(jobs), [(3, 1), (3, 2), (4, 3), (5, 2)])
            self.assertEqual(told, [[1, 2], [3, 5], [4]])

    def test_needs_in_any_order(self):
        for needs in itertools.permutations([(3, 1), (3, 2), (4, 3), (5, 2)]):
            self.assertEqual(days([1, 2, 3, 4, 5], list(needs)), [[1, 2], [3, 5], [4]])

    def test_a_pair_more_than_once_counts_once(self):
        self.assertEqual(days([1, 2, 3], [(2, 1), (2, 1), (3, 2), (2, 1)]), [[1], [2], [3]])

    def test_long_chain(self):
        # The last two lie beyond the bounds, and nothing is refused for that.
        for length in (100, 110, 150, 200):
            jobs = list(range(1, length + 1))
            for needs in (chain(length), chain(length)[::-1]):
                self.assertEqual(days(jobs[::-1], needs), [[job] for job in jobs])

    def test_sixty_figures(self):
        jobs = [0, GREAT, SMALL, GREAT - 1, SMALL + 1]
        needs = [(SMALL, GREAT), (0, GREAT - 1), (GREAT, SMALL + 1)]
        self.assertEqual(days(jobs, needs), [[SMALL + 1, GREAT - 1], [0, GREAT], [SMALL]])

    def test_full_yard(self):
        jobs, needs = full_yard()
        self.assertEqual(days(jobs[::-1], needs), [[job] for job in jobs])

    def test_all_jobs_on_one_day_and_three_hundred_needs_between_two_days(self):
        jobs = list(range(110))
        self.assertEqual(days(jobs[::-1], []), [jobs])
        needs = [(job, other) for job in range(80, 110) for other in range(10)]
        self.assertEqual(len(needs), 300)
        self.assertEqual(days(jobs[::-1], needs), [jobs[:80], jobs[80:]])


class DaysRefused(unittest.TestCase):
    def test_a_job_that_needs_itself(self):
        with self.assertRaises(NoOrder):
            days([1], [(1, 1)])
        with self.assertRaises(NoOrder):
            days([1, 2, 3], [(3, 2), (2, 2)])

    def test_rings(self):
        for needs in ([(1, 2), (2, 1)], [(1, 2), (2, 3), (3, 1)], [(4, 1), (1, 2), (2, 1), (2, 3)]):
            with self.subTest(needs=needs):
                with self.assertRaises(NoOrder):
                    days([1, 2, 3, 4], needs)

    def test_long_ring(self):
        with self.assertRaises(NoOrder):
            days(list(range(1, 111)), chain(110) + [(1, 110)])


class AgainstTheWords(unittest.TestCase):
    def check(self, jobs, needs):
        if has_ring(jobs, needs):
            self.assertRaises(NoOrder, days, jobs, needs)
        else:
            self.assertEqual(days(jobs, needs), days_by_steps(jobs, needs), (jobs, needs))

    def test_every_list_of_needs_of_three_jobs(self):
        jobs = [2, -1, 0]
        for needs in all_needs(jobs):
            self.check(jobs, needs)

    def test_yards_of_many_shapes(self):
        for jobs, needs in mixed_yards(400, 8, 12):
            self.check(jobs, needs)

    def test_large_yards(self):
        for jobs, needs in mixed_yards(12, 110, 300):
            self.check(jobs, needs)


class WhatIsHandedIn(unittest.TestCase):
    def test_unchanged(self):
        for needs in ([], [(3, 1), (5, 4), (3, 1), (1, 4)]):
            handed = [3, 1, 5, 2, 4], list(needs)
            ahead = copy.deepcopy(handed)
            answer = days(*handed)
            self.assertEqual(handed, ahead)
            # An answer that shared a list with its caller would change with the caller's.
            for day in answer:
                day.append(0)
            answer.append([0])
            self.assertEqual(handed, ahead)

    def test_the_jobs_are_not_handed_back_as_a_day(self):
        jobs = [1, 2, 3]
        days(jobs, [])[0].append(4)
        self.assertEqual(jobs, [1, 2, 3])

    def test_no_two_days_share_a_list(self):
        told = days([1, 2, 3], chain(3))
        told[0].append(9)
        self.assertEqual(told, [[1, 9], [2], [3]])


class Interface(unittest.TestCase):
    def test_names_of_arguments(self):
        self.assertEqual(list(inspect.signature(days).parameters), ["jobs", "needs"])
        self.assertEqual(days(needs=[(1, 2)], jobs=[1, 2]), [[2], [1]])

    def test_a_list_of_lists_of_whole_numbers(self):
        told = days([1, 2, 3], [(1, 2)])
        self.assertIs(type(told), list)
        self.assertEqual([type(day) for day in told], [list, list])
        self.assertEqual({type(job) for day in told for job in day}, {int})
        self.assertIs(type(days([], [])), list)


if __name__ == "__main__":
    unittest.main()
