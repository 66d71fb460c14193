"""rt_run beside a slow model, which goes tick by tick and follows the document sentence by sentence."""

import random
import unittest

from tests.helper import answer_rows, give, order, run, take, task


class ModelJob:
    def __init__(self, number, own, steps):
        self.number = number
        self.own = own
        self.steps = list(steps)
        self.has = set()
        self.waits_for = None


class Model:
    def __init__(self, by_deadline, told):
        self.by_deadline = by_deadline
        self.told = told
        self.jobs = []
        self.tick = 0

    def owner(self, lock):
        owners = [job for job in self.jobs if lock in job.has]
        return owners[0] if owners else None

    def waiting_for(self, job):
        """All jobs that wait for this one, straight or through others, and the job itself."""
        found = [job]
        for one in found:
            found += [other for other in self.jobs if other.waits_for in one.has and other not in found]
        return found

    def chosen(self):
        able = [job for job in self.jobs if job.waits_for is None or self.owner(job.waits_for) is None]
        return max(able, key=lambda job: (max(one.own for one in self.waiting_for(job)), -job.number), default=None)

    def come(self):
        for number, (first, period, deadline, rank, steps) in enumerate(self.told):
            since = self.tick - first
            comes = since == 0 or (period > 0 and since > 0 and since % period == 0)
            if comes and number not in [job.number for job in self.jobs]:
                own = -(self.tick + deadline) if self.by_deadline else rank
                self.jobs.append(ModelJob(number, own, steps))

    def worker(self):
        while True:
            job = self.chosen()
            if job is None or job.steps[0] <= 10000:
                return job
            lock = job.steps[0] % 10000
            if job.steps[0] >= 30000:
                job.has.remove(lock)
                job.steps.pop(0)
                if not job.steps:
                    self.jobs.remove(job)
            elif self.owner(lock) is not None:
                job.waits_for = lock
            else:
                job.has.add(lock)
                job.waits_for = None
                job.steps.pop(0)

    def next_tick(self):
        self.come()
        job = self.worker()
        self.tick += 1
        if job is None:
            return 255
        job.steps[0] -= 1
        if job.steps[0] == 0:
            job.steps.pop(0)
        if not job.steps:
            self.jobs.remove(job)
        return job.number


def some_steps(source, locks):
    steps = []
    had = []
    for _ in range(source.randint(0, 7)):
        free = [lock for lock in range(locks) if lock not in had]
        kind = source.choice("work take take give".split())
        if kind == "take" and free:
            had.append(source.choice(free))
            steps.append(take(had[-1]))
        elif kind == "give" and had:
            steps.append(give(had.pop(source.randrange(len(had)))))
        else:
            steps.append(source.randint(1, 3))
    steps.append(source.randint(1, 3))
    source.shuffle(had)
    return steps + [give(lock) for lock in had]


def some_task(source, locks):
    first = source.randint(0, 12)
    period = source.choice([0, 1, 2, 3, 5, 8, 13, 21, 34])
    return first, period, source.randint(1, 30), source.randint(0, 5), some_steps(source, locks)


class AgainstModel(unittest.TestCase):
    def compare(self, seed):
        source = random.Random(seed)
        locks = source.choice([1, 2, 3, 5])
        told = [some_task(source, locks) for _ in range(source.randint(1, 9))]
        by_deadline = source.randint(0, 1)
        runs = [source.randint(0, 40) for _ in range(4)]
        model = Model(by_deadline, told)
        expected = [[0] + [model.next_tick() for _ in range(n)] for n in runs]
        calls = [task(steps, first, period, deadline, rank) for first, period, deadline, rank, steps in told]
        rows = answer_rows(order(by_deadline), *calls, *[run(n) for n in runs])
        self.assertEqual(rows[1 + len(told):], expected, f"seed {seed}: {by_deadline} {told}")

    def test_many_sets_of_tasks(self):
        for seed in range(600):
            self.compare(seed)


if __name__ == "__main__":
    unittest.main()
