"""Yards that several tests build, and the document's words put as slow checks."""

import itertools

# The greatest and the least number of sixty figures.
GREAT = 10**60 - 1
SMALL = -GREAT


def chain(length):
    """Each job needs the one below it, down to 1, which needs nothing."""
    return [(job, job - 1) for job in range(2, length + 1)]


def full_yard():
    """A hundred and ten jobs and three hundred needs, each job needing up to three just below it."""
    jobs = list(range(-55, 55))
    needs = [(job, job - step) for step in (1, 2, 3) for job in jobs if job - step >= -55]
    return jobs, needs[:300]


def all_needs(jobs):
    """Every list of needs that these jobs can have, each pair at most once."""
    pairs = list(itertools.product(jobs, repeat=2))
    for size in range(len(pairs) + 1):
        for chosen in itertools.combinations(pairs, size):
            yield list(chosen)


def drawn_numbers():
    """Numbers from 0 to 2**31 - 1 without a plain pattern, the same at each run and on each Python."""
    state = 20
    while True:
        state = (state * 6364136223846793005 + 1442695040888963407) % 2**64
        yield state >> 33


def mixed_yards(count, most_jobs, most_needs):
    """Yards of many shapes and sizes, the needs of each second one free to make rings."""
    drawn = drawn_numbers()
    for turn in range(count):
        # Small numbers stand close together, and the great ones have up to sixty figures; both have either sign.
        numbers = [(next(drawn) % (2 * most_jobs) - most_jobs) * (1, 10**57)[next(drawn) % 2] for _ in range(most_jobs)]
        jobs = list(dict.fromkeys(numbers))[: next(drawn) % most_jobs + 1]
        needs = []
        for _ in range(next(drawn) % (most_needs + 1)):
            first, other = next(drawn) % len(jobs), next(drawn) % len(jobs)
            # Needs that only go one way along the list make no ring.
            if turn % 2 or first > other:
                needs.append((jobs[first], jobs[other]))
        # Told in another order, so that the list doesn't give away which job needs which.
        yield [jobs[place] for place in sorted(range(len(jobs)), key=lambda place: next(drawn))], needs


def reached_by_steps(job, needs, jobs):
    """What is reached by one need, by two, and so on; more steps than jobs reach nothing new."""
    found = set()
    front = {job}
    for _ in jobs:
        front = {other for first, other in needs if first in front}
        found |= front
    return sorted(found)


def has_ring(jobs, needs):
    """A ring is there just where some job is reached from itself."""
    return any(job in reached_by_steps(job, needs, jobs) for job in jobs)


def is_ring(row, jobs, needs):
    """Point 6: one job or more, none twice, each needs the next one itself, the last one the first."""
    if not isinstance(row, list) or not row or len(set(row)) != len(row):
        return False
    steps = list(zip(row, row[1:] + row[:1]))
    return all(job in jobs for job in row) and all(step in needs for step in steps)
