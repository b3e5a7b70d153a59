"""What a job needs, and which jobs can come next. Nothing here is refused."""


def needed(job, needs):
    return sorted(set([other for first, other in needs if first == job]))


def needed_in_all(job, needs):
    # The job itself isn't marked at the start: it is told only where needs lead back to it.
    reached = {}
    waiting = needed(job, needs)
    while waiting:
        other = waiting.pop()
        if other not in reached:
            reached[other] = True
            waiting.extend(needed(other, needs))
    return sorted(reached)


def can_come(jobs, needs, put):
    # One walk over the needs finds all jobs that still wait, so no job walks them anew.
    held = [first for first, other in needs if other not in put]
    return sorted(set([job for job in jobs if job not in put and job not in held]))
