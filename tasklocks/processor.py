"""The calls, handed in as one list of whole numbers, and their answers."""

from tasklocks.scheduler import Scheduler

CLEAR = 1
ORDER = 2
TASK = 3
RUN = 4
NOW = 5
KNOWN = 6
STATE = 7
OWNER = 8

# How many numbers stand ahead of a task's steps; the last of them says how many steps there are.
TASK_HEAD = 6


class UnknownCall(ValueError):
    """A number that is no call stands where a call begins."""


def answers(calls):
    """For each call how many numbers are answered, and these."""
    scheduler = Scheduler()
    answered = []
    place = 0
    while place < len(calls):
        call = calls[place:place + call_size(calls, place)]
        if call[0] == CLEAR:
            scheduler = Scheduler()
        answer = answer_call(scheduler, call)
        answered.append(len(answer))
        answered.extend(answer)
        place += len(call)
    return answered


def call_size(calls, place):
    """How many numbers the call has that begins at this place, its own number among them."""
    number = calls[place]
    if number in (CLEAR, NOW):
        return 1
    if number in (ORDER, RUN, STATE, OWNER):
        return 2
    if number == KNOWN:
        return 3
    if number == TASK:
        return TASK_HEAD + calls[place + TASK_HEAD - 1]
    raise UnknownCall(f"no such call: {number}")


def answer_call(scheduler, call):
    number = call[0]
    if number == ORDER:
        return [scheduler.set_order(call[1])]
    if number == TASK:
        return [scheduler.add_task(call[1], call[2], call[3], call[4], call[TASK_HEAD:])]
    if number == RUN:
        return scheduler.run(call[1])
    if number == NOW:
        return [scheduler.now]
    if number == KNOWN:
        return [scheduler.known(call[1], call[2])]
    if number == STATE:
        return [scheduler.state(call[1])]
    if number == OWNER:
        return [scheduler.owner(call[1])]
    # It is rt_clear, and all that it does was to begin with a new scheduler.
    return [0]
