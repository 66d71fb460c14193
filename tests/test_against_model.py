"""rt_run and what is asked behind it beside a slow model, which goes tick by tick, sentence by sentence."""

import random
import unittest

from tasklocks.processor import answers
from tests.helper import CLEAR, NOW, give, joined, known, order, owner, run, split, state, take, task


class ModelJob:
    def __init__(self, number, came, deadline, own, steps):
        self.number = number
        self.came = came
        self.deadline = deadline
        self.own = own
        self.steps = list(steps)
        self.told_late = False
        self.has = set()
        self.waits_for = None


class Model:
    def __init__(self, by_deadline, told):
        self.by_deadline = by_deadline
        self.told = told
        self.jobs = []
        self.tick = 0
        # For each task the ticks from coming to end of its jobs done, its missed deadlines and its jobs left out.
        self.lengths = [[] for _ in told]
        self.missed = [0 for _ in told]
        self.left_out = [0 for _ in told]

    def owner(self, lock):
        owners = [job for job in self.jobs if lock in job.has]
        return owners[0] if owners else None

    def waiting_for(self, job):
        """All jobs that wait for this one, straight or through others, and the job itself."""
        found = [job]
        for one in found:
            found += [other for other in self.jobs if other.waits_for in one.has and other not in found]
        return found

    def able(self):
        return [job for job in self.jobs if job.waits_for is None or self.owner(job.waits_for) is None]

    def chosen(self):
        able = self.able()
        return max(able, key=lambda job: (max(one.own for one in self.waiting_for(job)), -job.number), default=None)

    def come(self):
        for number, (first, period, deadline, rank, steps) in enumerate(self.told):
            since = self.tick - first
            comes = since == 0 or (period > 0 and since > 0 and since % period == 0)
            if comes and number in [job.number for job in self.jobs]:
                self.left_out[number] += 1
            elif comes:
                own = -(self.tick + deadline) if self.by_deadline else rank
                self.jobs.append(ModelJob(number, self.tick, self.tick + deadline, own, steps))

    def tell_late(self):
        for job in self.jobs:
            if job.deadline <= self.tick and not job.told_late:
                job.told_late = True
                self.missed[job.number] += 1

    def done(self, job, tick):
        self.jobs.remove(job)
        self.lengths[job.number].append(tick - job.came)

    def worker(self):
        while True:
            job = self.chosen()
            if job is None or job.steps[0] <= 10000:
                return job
            lock = job.steps[0] % 10000
            if job.steps[0] >= 30000:
                job.has.remove(lock)
                job.steps.pop(0)
                if not job.steps:
                    self.done(job, self.tick)
            elif self.owner(lock) is not None:
                job.waits_for = lock
            else:
                job.has.add(lock)
                job.waits_for = None
                job.steps.pop(0)

    def next_tick(self):
        self.come()
        self.tell_late()
        job = self.worker()
        self.tick += 1
        if job is None:
            return 255
        job.steps[0] -= 1
        if job.steps[0] == 0:
            job.steps.pop(0)
        if not job.steps:
            self.done(job, self.tick)
        return job.number

    def is_task(self, i):
        return i in range(len(self.told))

    def known(self, i, which):
        if not self.is_task(i) or which not in range(4):
            return -1
        lengths = self.lengths[i]
        return [len(lengths), self.missed[i], self.left_out[i], max(lengths, default=0)][which]

    def state(self, i):
        if not self.is_task(i):
            return -1
        for job in self.jobs:
            if job.number == i:
                return (2 if job.has else 1) if job in self.able() else 3
        return 0

    def answer(self, call):
        number, *values = call
        if number == 4:
            return [0] + [self.next_tick() for _ in range(values[0])]
        if number == 5:
            return [self.tick]
        if number == 6:
            return [self.known(*values)]
        if number == 7:
            return [self.state(*values)]
        if values[0] not in range(16):
            return [-1]
        job = self.owner(values[0])
        return [0 if job is None else job.number + 1]


def some_steps(source, locks):
    steps = []
    had = []
    for _ in range(source.randint(0, 7)):
        free = [lock for lock in range(locks) if lock not in had]
        kind = source.choice("work take take give".split())
        if kind == "take" and free:
            had.append(source.choice(free))
            steps.append(take(had[-1]))
        elif kind == "give" and had:
            steps.append(give(had.pop(source.randrange(len(had)))))
        else:
            steps.append(source.randint(1, 3))
    steps.append(source.randint(1, 3))
    source.shuffle(had)
    return steps + [give(lock) for lock in had]


def some_task(source, locks):
    first = source.randint(0, 12)
    period = source.choice([0, 1, 2, 3, 5, 8, 13, 21, 34])
    return first, period, source.randint(1, 30), source.randint(0, 5), some_steps(source, locks)


def some_asked(source, tasks, locks):
    """Everything that can be asked, and a little beyond, in any order."""
    asked = [NOW]
    asked += [known(i, which) for i in range(-1, tasks + 1) for which in range(4)]
    asked += [known(source.randint(0, tasks), source.choice([-1, 4]))]
    asked += [state(i) for i in range(-1, tasks + 1)]
    asked += [owner(lock) for lock in [-1] + list(range(locks + 1)) + [15, 16]]
    source.shuffle(asked)
    return asked


class AgainstModel(unittest.TestCase):
    def compare(self, seed):
        source = random.Random(seed)
        locks = source.choice([1, 2, 3, 5])
        told = [some_task(source, locks) for _ in range(source.randint(1, 9))]
        by_deadline = source.randint(0, 1)
        ahead = [CLEAR, order(by_deadline)]
        ahead += [task(steps, first, period, deadline, rank) for first, period, deadline, rank, steps in told]
        calls = []
        for longest in (0, 3, 40, 40, 40):
            calls += [run(source.randint(0, longest))] + some_asked(source, len(told), locks)
        model = Model(by_deadline, told)
        expected = [model.answer(call) for call in calls]
        rows = split(answers(joined(ahead + calls)))[len(ahead):]
        self.assertEqual(rows, expected, f"seed {seed}: {by_deadline}, {told}, {calls}")

    def test_many_sets_of_tasks(self):
        for seed in range(600):
            self.compare(seed)


if __name__ == "__main__":
    unittest.main()
