"""What is asked of the jobs and the needs ahead of any answer on orders, rings or days."""

from yardturn.errors import NoJob, Twice


def check(jobs, needs):
    # The jobs are gone through ahead of the needs: where both are wrong, it is Twice.
    known = {}
    for job in jobs:
        if job in known:
            raise Twice(f"job {job} stands twice among the jobs")
        known[job] = True
    for pair in needs:
        for job in pair:
            if job not in known:
                raise NoJob(f"a need tells of {job}, which is none of the jobs")
