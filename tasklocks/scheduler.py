"""One set of tasks, its locks, and who works in each tick."""

from tasklocks.steps import is_take, lock_of
from tasklocks.tasks import MOST_TICKS, Job, Task, task_is_right

MOST_TASKS = 32
MOST_TICKS_A_RUN = 100000
NOBODY_WORKED = 255


class Scheduler:
    def __init__(self):
        self.by_deadline = False
        self.now = 0
        self.tasks = []
        # By task number: a task has one job at the most, since the next is left out until it is done.
        self.jobs = {}
        # By lock, the number of the task whose job has it; a lock that nobody has is not in here.
        self.owners = {}

    def set_order(self, by_deadline):
        if by_deadline not in (0, 1) or self.now > 0:
            return -1
        self.by_deadline = by_deadline == 1
        return 0

    def add_task(self, first, period, deadline, rank, steps):
        if self.now > 0:
            return -1
        if len(self.tasks) == MOST_TASKS:
            return -2
        if not task_is_right(first, period, deadline, rank, steps):
            return -3
        self.tasks.append(Task(first, period, deadline, rank, steps))
        return len(self.tasks) - 1

    def run(self, n):
        """Run n ticks: 0 and then who worked in each, or -1 alone."""
        if n < 0 or n > MOST_TICKS_A_RUN or self.now + n > MOST_TICKS:
            return [-1]
        answer = [0]
        end = self.now + n
        while self.now < end:
            self.let_jobs_come()
            worker = self.find_worker()
            ticks = self.ticks_alike(worker, end)
            if worker is None:
                answer.extend([NOBODY_WORKED] * ticks)
            else:
                answer.extend([worker.number] * ticks)
                self.work(worker, ticks)
            self.now += ticks
        return answer

    def let_jobs_come(self):
        for number, task in enumerate(self.tasks):
            if task.comes_at == self.now:
                task.pass_coming()
                if number not in self.jobs:
                    self.jobs[number] = Job(number, self.urgency_of_new_job(task), task.steps)

    def urgency_of_new_job(self, task):
        """The urgency of a job of this task that comes now: the greater the number, the more urgent."""
        if self.by_deadline:
            return -(self.now + task.deadline)
        return task.rank

    def find_worker(self):
        """Go through the steps that take no time, until a job is to work or none is able."""
        chosen = self.chosen_job()
        while chosen is not None and not chosen.is_at_work():
            self.do_lock_step(chosen)
            chosen = self.chosen_job()
        return chosen

    def chosen_job(self):
        # A job lends its own urgency to the able job that it waits for in the end, and to itself if it is able;
        # so the greatest own urgency that is lent leads to the chosen one.
        chosen = None
        urgency = 0
        for job in self.jobs.values():
            if chosen is not None and job.own_urgency < urgency:
                continue
            able = self.able_job_behind(job)
            if able is None:
                continue
            if chosen is None or job.own_urgency > urgency or able.number < chosen.number:
                chosen = able
                urgency = job.own_urgency
        return chosen

    def able_job_behind(self, job):
        """The job itself if it is able, else the able one that it waits for over however many locks.

        None where jobs wait for one another in a ring.
        """
        hops = 0
        while not self.is_able(job):
            if hops == len(self.jobs):
                return None
            job = self.jobs[self.owners[job.waits_for]]
            hops += 1
        return job

    def is_able(self, job):
        return job.waits_for is None or job.waits_for not in self.owners

    def do_lock_step(self, job):
        lock = lock_of(job.current_step())
        if not is_take(job.current_step()):
            self.owners.pop(lock)
            self.leave_step(job)
        elif lock in self.owners:
            job.waits_for = lock
        else:
            self.owners[lock] = job.number
            job.waits_for = None
            self.leave_step(job)

    def leave_step(self, job):
        job.end_step()
        if job.is_done():
            self.jobs.pop(job.number)

    def ticks_alike(self, worker, end):
        """For how many ticks from now on nothing can change who works: no job comes, and no step ends before."""
        stop = min([end] + [task.comes_at for task in self.tasks])
        if worker is None:
            return stop - self.now
        return min(stop - self.now, worker.work_left())

    def work(self, worker, ticks):
        worker.worked += ticks
        if worker.work_left() == 0:
            self.leave_step(worker)
