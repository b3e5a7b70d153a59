"""The order of the jobs, and the ring that keeps them from having one."""

from yardturn.checking import check
from yardturn.errors import NoOrder
from yardturn.needing import can_come, needed


def order(jobs, needs):
    check(jobs, needs)
    row = beginning(jobs, needs)
    if len(row) < len(jobs):
        raise NoOrder("some of the jobs need one another in a ring")
    return row


def ring(jobs, needs):
    check(jobs, needs)
    row = beginning(jobs, needs)
    held = [job for job in jobs if job not in row]
    if not held:
        return None
    return ring_among(held, needs)


# Where there is a ring this stops short of all jobs: those left out are of rings or need such as are.
def beginning(jobs, needs):
    row = []
    ready = can_come(jobs, needs, row)
    while ready:
        row.append(ready[0])
        ready = can_come(jobs, needs, row)
    return row


# A held job needs a held one itself, or it could have come; so the way goes on until it meets itself.
def ring_among(held, needs):
    way = []
    job = min(held)
    while job not in way:
        way.append(job)
        ahead = [other for other in needed(job, needs) if other in held]
        job = ahead[0]
    # What stands ahead of the meeting place only leads into the ring.
    return way[way.index(job):]
