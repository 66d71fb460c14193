"""The steps of a task: each is one number that says work, a lock taken or a lock given back."""

LOCKS = 16
MOST_WORK = 10000
TAKE_LOCK_0 = 20000
GIVE_LOCK_0 = 30000


def is_work(step):
    return 1 <= step <= MOST_WORK


def is_take(step):
    return TAKE_LOCK_0 <= step < TAKE_LOCK_0 + LOCKS


def is_give(step):
    return GIVE_LOCK_0 <= step < GIVE_LOCK_0 + LOCKS


def lock_of(step):
    """The lock that a step takes or gives back."""
    if is_take(step):
        return step - TAKE_LOCK_0
    return step - GIVE_LOCK_0


def locks_are_right(steps):
    """Whether each lock is taken while not had, given back while had, and none is had at the end."""
    had = []
    for step in steps:
        if is_take(step):
            if lock_of(step) in had:
                return False
            had.append(lock_of(step))
        elif is_give(step):
            if lock_of(step) not in had:
                return False
            had.remove(lock_of(step))
    return len(had) == 0


def steps_are_right(steps):
    """Whether these numbers may be a task's steps; how many there are is not asked here."""
    if not all([is_work(step) or is_take(step) or is_give(step) for step in steps]):
        return False
    return any([is_work(step) for step in steps]) and locks_are_right(steps)
