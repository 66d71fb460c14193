"""A task, as it was told, with what is counted of its jobs, and a job of one, as far as it has come."""

from tasklocks.steps import is_work, steps_are_right

MOST_TICKS = 1000000000
MOST_TIME = 1000000
MOST_RANK = 255
MOST_STEPS = 64

# Later than any tick that can be run, so that it needs no case of its own beside the real ticks.
NEVER = 2000000000


def task_is_right(first, period, deadline, rank, steps):
    if not (0 <= first <= MOST_TIME and 0 <= period <= MOST_TIME and 1 <= deadline <= MOST_TIME):
        return False
    return 0 <= rank <= MOST_RANK and 1 <= len(steps) <= MOST_STEPS and steps_are_right(steps)


class Task:
    def __init__(self, first, period, deadline, rank, steps):
        self.period = period
        self.deadline = deadline
        self.rank = rank
        self.steps = steps
        self.comes_at = first
        self.jobs_done = 0
        self.missed_deadlines = 0
        self.jobs_left_out = 0
        self.longest = 0

    def pass_coming(self):
        """Look ahead to the coming after this one."""
        if self.period == 0:
            self.comes_at = NEVER
        else:
            self.comes_at += self.period

    def count_done(self, ticks):
        """One more job is done, so many ticks behind its coming."""
        self.jobs_done += 1
        self.longest = max(self.longest, ticks)

    def known(self):
        """What rt_known tells, in the order of its numbers."""
        return (self.jobs_done, self.missed_deadlines, self.jobs_left_out, self.longest)


class Job:
    def __init__(self, number, steps, came_at, deadline, own_urgency):
        self.number = number
        self.steps = steps
        self.came_at = came_at
        # The tick in which it is to be told late; told once, it is never again.
        self.late_at = deadline
        self.own_urgency = own_urgency
        self.place = 0
        self.worked = 0
        self.waits_for = None

    def current_step(self):
        return self.steps[self.place]

    def work_left(self):
        """How many ticks of work its step, which is work, still has."""
        return self.current_step() - self.worked

    def end_step(self):
        self.place += 1
        self.worked = 0

    def is_done(self):
        return self.place == len(self.steps)

    def is_at_work(self):
        return is_work(self.current_step())
