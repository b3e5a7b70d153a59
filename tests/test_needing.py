"""What a job needs itself, what it needs in all, and what can come next."""

import copy
import inspect
import itertools
import unittest

from yardturn.needing import can_come, needed, needed_in_all
from yards import GREAT, SMALL, all_needs, chain, full_yard, reached_by_steps

RING_WITH_WAY_IN = [(1, 2), (2, 3), (3, 4), (4, 2), (3, 5)]


class Needed(unittest.TestCase):
    def test_ordinary(self):
        needs = [(3, 1), (2, 1), (3, 2), (4, 3)]
        self.assertEqual(needed(3, needs), [1, 2])
        self.assertEqual(needed(2, needs), [1])
        self.assertEqual(needed(4, needs), [3])

    def test_from_the_least_to_the_greatest(self):
        needs = [(5, 10), (5, 9), (5, -2), (5, 0), (5, -10), (5, 100)]
        self.assertEqual(needed(5, needs), [-10, -2, 0, 9, 10, 100])

    def test_a_pair_more_than_once_counts_once(self):
        self.assertEqual(needed(1, [(1, 3), (1, 2), (1, 3), (1, 2), (1, 3)]), [2, 3])

    def test_a_job_that_needs_itself(self):
        self.assertEqual(needed(2, [(2, 2)]), [2])
        self.assertEqual(needed(2, [(2, 3), (2, 2), (2, 1)]), [1, 2, 3])

    def test_a_job_that_needs_nothing(self):
        self.assertEqual(needed(1, []), [])
        self.assertEqual(needed(1, [(2, 1), (3, 1)]), [])

    def test_a_job_that_stands_in_no_pair_is_not_refused(self):
        self.assertEqual(needed(9, [(2, 1), (3, 1)]), [])

    def test_only_what_it_needs_itself(self):
        self.assertEqual(needed(3, chain(3)), [2])

    def test_needs_in_any_order(self):
        needs = [(1, 4), (1, 2), (2, 1), (1, 3)]
        for turned in itertools.permutations(needs):
            self.assertEqual(needed(1, list(turned)), [2, 3, 4])

    def test_negative_numbers_and_nought(self):
        needs = [(0, -1), (0, 1), (-1, 0), (0, 0), (1, -1)]
        self.assertEqual(needed(0, needs), [-1, 0, 1])
        self.assertEqual(needed(-1, needs), [0])
        self.assertEqual(needed(1, needs), [-1])

    def test_sixty_figures(self):
        needs = [(GREAT, GREAT - 1), (GREAT, SMALL), (GREAT - 1, 7), (GREAT, 0), (SMALL, GREAT)]
        self.assertEqual(needed(GREAT, needs), [SMALL, 0, GREAT - 1])
        self.assertEqual(needed(GREAT - 1, needs), [7])
        self.assertEqual(needed(SMALL, needs), [GREAT])

    def test_three_hundred_needs_of_one_job(self):
        needs = [(0, other % 110) for other in range(300)]
        self.assertEqual(needed(0, needs), list(range(110)))


class NeededInAll(unittest.TestCase):
    def test_one_need_and_several(self):
        needs = [(1, 2), (2, 3), (3, 4), (6, 1)]
        self.assertEqual(needed_in_all(3, needs), [4])
        self.assertEqual(needed_in_all(2, needs), [3, 4])
        self.assertEqual(needed_in_all(1, needs), [2, 3, 4])
        self.assertEqual(needed_in_all(6, needs), [1, 2, 3, 4])

    def test_ways_that_meet_again(self):
        needs = [(1, 2), (1, 3), (2, 4), (3, 4), (4, 5)]
        self.assertEqual(needed_in_all(1, needs), [2, 3, 4, 5])

    def test_many_ways_that_meet_again(self):
        # Two ways at each of fifty steps: whoever walks each way by itself never ends.
        needs = []
        for step in range(50):
            needs += [(2 * step, 2 * step + 2), (2 * step, 2 * step + 1), (2 * step + 1, 2 * step + 2)]
        self.assertEqual(needed_in_all(0, needs), list(range(1, 101)))

    def test_a_job_of_a_ring_is_among_its_own(self):
        for job in (2, 3, 4):
            self.assertEqual(needed_in_all(job, RING_WITH_WAY_IN), [2, 3, 4, 5])

    def test_a_job_on_the_way_into_a_ring_is_not(self):
        self.assertEqual(needed_in_all(1, RING_WITH_WAY_IN), [2, 3, 4, 5])

    def test_a_job_behind_a_ring_is_not(self):
        self.assertEqual(needed_in_all(5, RING_WITH_WAY_IN), [])

    def test_two_rings_with_a_need_between(self):
        needs = [(1, 2), (2, 1), (2, 3), (3, 4), (4, 3)]
        self.assertEqual(needed_in_all(1, needs), [1, 2, 3, 4])
        self.assertEqual(needed_in_all(3, needs), [3, 4])

    def test_a_job_that_needs_itself(self):
        self.assertEqual(needed_in_all(1, [(1, 1)]), [1])
        self.assertEqual(needed_in_all(1, [(1, 2), (2, 2)]), [2])

    def test_nothing_needed(self):
        self.assertEqual(needed_in_all(1, []), [])
        self.assertEqual(needed_in_all(1, [(2, 1), (3, 2)]), [])
        self.assertEqual(needed_in_all(9, [(2, 1), (3, 2)]), [])

    def test_a_pair_more_than_once_counts_once(self):
        self.assertEqual(needed_in_all(3, [(3, 2), (2, 1), (3, 2), (2, 1)]), [1, 2])

    def test_from_the_least_to_the_greatest(self):
        needs = [(0, 10), (10, -3), (-3, 9), (9, 100), (100, -20)]
        self.assertEqual(needed_in_all(0, needs), [-20, -3, 9, 10, 100])

    def test_needs_in_any_order(self):
        for turned in itertools.permutations(RING_WITH_WAY_IN):
            self.assertEqual(needed_in_all(1, list(turned)), [2, 3, 4, 5])

    def test_long_chain(self):
        # The last two lie beyond the bounds, and nothing is refused for that.
        for length in (100, 110, 150, 400):
            for needs in (chain(length), chain(length)[::-1]):
                self.assertEqual(needed_in_all(length, needs), list(range(1, length)))

    def test_long_ring(self):
        needs = chain(110) + [(1, 110)]
        for job in (1, 60, 110):
            self.assertEqual(needed_in_all(job, needs), list(range(1, 111)))

    def test_sixty_figures(self):
        needs = [(GREAT, SMALL), (SMALL, 0), (0, GREAT - 1), (GREAT - 1, -5)]
        self.assertEqual(needed_in_all(GREAT, needs), [SMALL, -5, 0, GREAT - 1])
        self.assertEqual(needed_in_all(GREAT, needs + [(-5, GREAT)]), [SMALL, -5, 0, GREAT - 1, GREAT])

    def test_full_yard(self):
        jobs, needs = full_yard()
        self.assertEqual((len(jobs), len(needs)), (110, 300))
        for job in jobs:
            self.assertEqual(needed_in_all(job, needs), list(range(-55, job)))


class CanCome(unittest.TestCase):
    jobs = [4, 2, 1, 3, 5]
    needs = [(3, 1), (3, 2), (4, 3), (5, 2)]

    def test_nothing_put(self):
        self.assertEqual(can_come(self.jobs, self.needs, []), [1, 2])

    def test_some_put(self):
        self.assertEqual(can_come(self.jobs, self.needs, [1]), [2])
        self.assertEqual(can_come(self.jobs, self.needs, [2]), [1, 5])
        self.assertEqual(can_come(self.jobs, self.needs, [1, 2]), [3, 5])
        self.assertEqual(can_come(self.jobs, self.needs, [1, 2, 3]), [4, 5])

    def test_all_put(self):
        self.assertEqual(can_come(self.jobs, self.needs, [1, 2, 3, 4, 5]), [])

    def test_put_in_any_order(self):
        for put in itertools.permutations([1, 2, 3]):
            self.assertEqual(can_come(self.jobs, self.needs, list(put)), [4, 5])

    def test_put_need_not_be_the_beginning_of_an_order(self):
        self.assertEqual(can_come(self.jobs, self.needs, [3]), [1, 2, 4])

    def test_jobs_in_any_order(self):
        for jobs in itertools.permutations(self.jobs):
            self.assertEqual(can_come(list(jobs), self.needs, [2, 1]), [3, 5])

    def test_needs_in_any_order(self):
        for needs in itertools.permutations(self.needs):
            self.assertEqual(can_come(self.jobs, list(needs), [2, 1]), [3, 5])

    def test_a_pair_more_than_once_counts_once(self):
        needs = [(2, 1), (2, 1), (3, 2), (2, 1)]
        self.assertEqual(can_come([1, 2, 3], needs, []), [1])
        self.assertEqual(can_come([1, 2, 3], needs, [1]), [2])

    def test_a_job_that_needs_itself(self):
        self.assertEqual(can_come([1], [(1, 1)], []), [])
        self.assertEqual(can_come([1, 2, 3], [(1, 1), (2, 1)], []), [3])
        self.assertEqual(can_come([1, 2, 3], [(1, 1), (2, 1)], [1]), [2, 3])

    def test_jobs_of_a_ring(self):
        needs = [(1, 2), (2, 3), (3, 1)]
        self.assertEqual(can_come([1, 2, 3], needs, []), [])
        self.assertEqual(can_come([1, 2, 3, 4], needs, [4]), [])
        self.assertEqual(can_come([1, 2, 3, 4], needs, []), [4])

    def test_only_what_a_job_needs_itself_counts(self):
        self.assertEqual(can_come([1, 2, 3], chain(3), [2]), [1, 3])

    def test_no_jobs(self):
        self.assertEqual(can_come([], [], []), [])

    def test_no_needs(self):
        self.assertEqual(can_come([3, 1, 2], [], []), [1, 2, 3])
        self.assertEqual(can_come([3, 1, 2], [], [2]), [1, 3])

    def test_from_the_least_to_the_greatest(self):
        jobs = [10, 9, -2, 0, -10, 100]
        self.assertEqual(can_come(jobs, [], []), [-10, -2, 0, 9, 10, 100])

    def test_nought(self):
        self.assertEqual(can_come([1, 0, -1], [(1, 0), (-1, 0)], []), [0])
        self.assertEqual(can_come([1, 0, -1], [(1, 0), (-1, 0)], [0]), [-1, 1])

    def test_sixty_figures(self):
        jobs = [GREAT, 0, GREAT - 1, SMALL]
        needs = [(SMALL, GREAT), (0, GREAT - 1)]
        self.assertEqual(can_come(jobs, needs, []), [GREAT - 1, GREAT])
        self.assertEqual(can_come(jobs, needs, [GREAT]), [SMALL, GREAT - 1])

    def test_full_yard(self):
        jobs, needs = full_yard()
        for count in range(110):
            self.assertEqual(can_come(jobs, needs, jobs[:count]), [jobs[count]])
        self.assertEqual(can_come(jobs, needs, jobs), [])

    def test_a_need_of_no_job_is_not_refused(self):
        self.assertEqual(can_come([1, 2], [(1, 9), (8, 2)], []), [2])

    def test_a_job_twice_is_not_refused(self):
        self.assertEqual(can_come([2, 1, 2], [], []), [1, 2])


class EveryListOfNeeds(unittest.TestCase):
    """All needs that three jobs can have, against the words of points 4 and 5."""

    jobs = [2, -1, 0]

    def test_needed(self):
        for needs in all_needs(self.jobs):
            for job in self.jobs:
                told = [other for other in sorted(self.jobs) if (job, other) in needs]
                self.assertEqual(needed(job, needs), told, needs)

    def test_needed_in_all(self):
        for needs in all_needs(self.jobs):
            for job in self.jobs:
                told = reached_by_steps(job, needs, self.jobs)
                self.assertEqual(needed_in_all(job, needs), told, needs)

    def test_can_come(self):
        rows = [list(put) for size in range(4) for put in itertools.permutations(self.jobs, size)]
        for needs in all_needs(self.jobs):
            for put in rows:
                told = []
                for job in sorted(self.jobs):
                    ready = all(other in put for first, other in needs if first == job)
                    if job not in put and ready:
                        told.append(job)
                self.assertEqual(can_come(self.jobs, needs, put), told, (needs, put))


class WhatIsHandedIn(unittest.TestCase):
    jobs = [3, 1, 5, 2, 4]
    needs = [(3, 1), (5, 4), (3, 1), (4, 5), (2, 2), (1, 4)]
    put = [4, 1, 5]

    def unchanged(self, function, *handed):
        ahead = copy.deepcopy(handed)
        answer = function(*handed)
        self.assertEqual(handed, ahead)
        # An answer that shared a list with its caller would change with the caller's.
        answer.append(0)
        self.assertEqual(handed, ahead)
        self.assertEqual(function(*handed) + [0], answer)

    def test_needed(self):
        for job in self.jobs + [9]:
            self.unchanged(needed, job, list(self.needs))

    def test_needed_in_all(self):
        for job in self.jobs + [9]:
            self.unchanged(needed_in_all, job, list(self.needs))

    def test_can_come(self):
        self.unchanged(can_come, list(self.jobs), list(self.needs), list(self.put))
        self.unchanged(can_come, list(self.jobs), [], [])
        self.unchanged(can_come, [], [], [])

    def test_sorted_lists_are_not_handed_back(self):
        self.unchanged(can_come, [1, 2, 3], [], [])


class Interface(unittest.TestCase):
    def test_names_of_arguments(self):
        told = ((needed, ["job", "needs"]), (needed_in_all, ["job", "needs"]), (can_come, ["jobs", "needs", "put"]))
        for function, names in told:
            self.assertEqual(list(inspect.signature(function).parameters), names)

    def test_answers_are_lists_of_whole_numbers(self):
        needs = [(2, 1), (3, 2), (1, 1)]
        for answer in (needed(3, needs), needed_in_all(3, needs), can_come([1, 2, 3, 4], needs, [1])):
            self.assertIs(type(answer), list)
            self.assertTrue(answer)
            self.assertEqual({type(job) for job in answer}, {int})


if __name__ == "__main__":
    unittest.main()
