"""One set of tasks, its locks, who works in each tick, and what is known of it."""

from tasklocks.steps import LOCKS, is_take, lock_of
from tasklocks.tasks import MOST_TICKS, NEVER, Job, Task, task_is_right

MOST_TASKS = 32
MOST_TICKS_A_RUN = 100000
NOBODY_WORKED = 255

NO_JOB = 0
ABLE_WITHOUT_LOCK = 1
ABLE_WITH_LOCK = 2
NOT_ABLE = 3


class Scheduler:
    def __init__(self):
        self.by_deadline = False
        self.now = 0
        self.tasks = []
        # By task number: a task has one job at the most, since the next is left out until it is done.
        self.jobs = {}
        # By lock, the number of the task whose job has it; a lock that nobody has is not in here.
        self.owners = {}

    def set_order(self, by_deadline):
        if by_deadline not in (0, 1) or self.now > 0:
            return -1
        self.by_deadline = by_deadline == 1
        return 0

    def add_task(self, first, period, deadline, rank, steps):
        if self.now > 0:
            return -1
        if len(self.tasks) == MOST_TASKS:
            return -2
        if not task_is_right(first, period, deadline, rank, steps):
            return -3
        self.tasks.append(Task(first, period, deadline, rank, steps))
        return len(self.tasks) - 1

    def run(self, n):
        """Run n ticks: 0 and then who worked in each, or -1 alone."""
        if n < 0 or n > MOST_TICKS_A_RUN or self.now + n > MOST_TICKS:
            return [-1]
        answer = [0]
        end = self.now + n
        while self.now < end:
            self.let_jobs_come()
            self.tell_late()
            worker = self.find_worker()
            ticks = self.ticks_alike(worker, end)
            # Where this work was the job's last it is done at the next tick, so the time goes on first.
            self.now += ticks
            if worker is None:
                answer.extend([NOBODY_WORKED] * ticks)
            else:
                answer.extend([worker.number] * ticks)
                self.work(worker, ticks)
        return answer

    def known(self, i, which):
        if not self.is_task(i):
            return -1
        known = self.tasks[i].known()
        if which < 0 or which >= len(known):
            return -1
        return known[which]

    def state(self, i):
        if not self.is_task(i):
            return -1
        if i not in self.jobs:
            return NO_JOB
        if not self.is_able(self.jobs[i]):
            return NOT_ABLE
        if any([owner == i for owner in self.owners.values()]):
            return ABLE_WITH_LOCK
        return ABLE_WITHOUT_LOCK

    def owner(self, lock):
        """The number of the task whose job has the lock, and 1; 0 for nobody."""
        if lock < 0 or lock >= LOCKS:
            return -1
        if lock not in self.owners:
            return 0
        return self.owners[lock] + 1

    def is_task(self, i):
        return 0 <= i < len(self.tasks)

    def let_jobs_come(self):
        for number, task in enumerate(self.tasks):
            if task.comes_at == self.now:
                task.pass_coming()
                if number in self.jobs:
                    task.jobs_left_out += 1
                else:
                    self.jobs[number] = self.new_job(number, task)

    def new_job(self, number, task):
        """A job of this task that comes now; the greater the number of its urgency, the more urgent."""
        deadline = self.now + task.deadline
        own_urgency = -deadline if self.by_deadline else task.rank
        return Job(number, task.steps, self.now, deadline, own_urgency)

    def tell_late(self):
        for job in self.jobs.values():
            if job.late_at <= self.now:
                job.late_at = NEVER
                task = self.tasks[job.number]
                task.missed_deadlines += 1

    def find_worker(self):
        """Go through the steps that take no time, until a job is to work or none is able."""
        chosen = self.chosen_job()
        while chosen is not None and not chosen.is_at_work():
            self.do_lock_step(chosen)
            chosen = self.chosen_job()
        return chosen

    def chosen_job(self):
        # A job lends its own urgency to the able job that it waits for in the end, and to itself if it is able;
        # so the greatest own urgency that is lent leads to the chosen one.
        chosen = None
        urgency = 0
        for job in self.jobs.values():
            if chosen is not None and job.own_urgency < urgency:
                continue
            able = self.able_job_behind(job)
            if able is None:
                continue
            if chosen is None or job.own_urgency > urgency or able.number < chosen.number:
                chosen = able
                urgency = job.own_urgency
        return chosen

    def able_job_behind(self, job):
        """The job itself if it is able, else the able one that it waits for over however many locks.

        None where jobs wait for one another in a ring.
        """
        hops = 0
        while not self.is_able(job):
            if hops == len(self.jobs):
                return None
            job = self.jobs[self.owners[job.waits_for]]
            hops += 1
        return job

    def is_able(self, job):
        return job.waits_for is None or job.waits_for not in self.owners

    def do_lock_step(self, job):
        lock = lock_of(job.current_step())
        if not is_take(job.current_step()):
            self.owners.pop(lock)
            self.leave_step(job)
        elif lock in self.owners:
            job.waits_for = lock
        else:
            self.owners[lock] = job.number
            job.waits_for = None
            self.leave_step(job)

    def leave_step(self, job):
        job.end_step()
        if job.is_done():
            self.jobs.pop(job.number)
            self.tasks[job.number].count_done(self.now - job.came_at)

    def ticks_alike(self, worker, end):
        """For how many ticks from now on there is only this work: no job comes or is late, and no step ends before."""
        stop = min([end] + [task.comes_at for task in self.tasks] + [job.late_at for job in self.jobs.values()])
        if worker is None:
            return stop - self.now
        return min(stop - self.now, worker.work_left())

    def work(self, worker, ticks):
        worker.worked += ticks
        if worker.work_left() == 0:
            self.leave_step(worker)
