"""The greatest that is taken, and the numbers of the refusals."""

MOST_TOOLS = 5
MOST_JOBS = 5
HIGHEST_PRICE = 1000
# Of the two numbers of a factor.
HIGHEST_TERM = 1000

NOT_TAKEN = -1
NO_SUCH_JOB = -2
JOBS_FULL = -5
