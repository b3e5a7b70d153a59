"""The jobs by days, with hands enough for many jobs at once."""

from yardturn.checking import check
from yardturn.errors import NoOrder
from yardturn.needing import can_come


def days(jobs, needs):
    check(jobs, needs)
    rows = []
    done = []
    while len(done) < len(jobs):
        day = can_come(jobs, needs, done)
        if not day:
            raise NoOrder("some of the jobs need one another in a ring")
        rows.append(day)
        done.extend(day)
    return rows
