"""What one shop keeps between its calls."""


class Shop:
    """The tools' costs in order, and the jobs by number, each as (what it pays, what it needs)."""

    def __init__(self):
        self.costs = [0]
        self.jobs = {}
        # Kept apart from the jobs, since the number of a job that has gone isn't given again.
        self.last_number = 0
