"""The machines, and the calls that are made on them."""

from alldone.messages import NO_ERRAND, NO_REPORT, message_of

MOST_AT_START = 64
MOST_WAITING = 1024
MOST_OUT = 256
MOST_GIVEN = 4294967295
FEWEST_MACHINES = 2
MOST_MACHINES = 16

OK = 0
NONE_THERE = -11
BUSY = -16
NOT_VALID = -22
FULL = -28

OBJECTS = 4

START = 0
TAKE = 1
GIVE = 2
FINISH = 3

# How many numbers a call has, by its number; behind those of wd_start come its tasks.
SIZES = (5, 2, 4, 2, 3)


class Machine:
    """One machine; each call answers a list: the number that is answered, then what else is."""

    def __init__(self, me, machines, tasks):
        self.me = me
        self.machines = machines
        self.waiting = list(tasks)
        # None, since 0 is a task like any other.
        self.work = None
        # For each machine: its errands that are out, the oldest first, as (number, task).
        self.errands = [[] for other in range(machines)]
        self.given = [0] * machines
        self.taken = [0] * machines
        self.wave = 0
        self.report = NO_REPORT

    def take(self):
        if self.work is not None:
            return [BUSY]
        if len(self.waiting) == 0:
            return [NONE_THERE]
        self.work = self.waiting.pop(0)
        return [OK, self.work]

    def give(self, to, task):
        if to >= self.machines:
            return [NOT_VALID]
        if self.work is None:
            return [NONE_THERE]
        if to == self.me:
            return self.give_here(task)
        return self.give_away(to, task)

    def give_here(self, task):
        if len(self.waiting) >= MOST_WAITING:
            return [FULL]
        self.waiting.append(task)
        return [OK]

    def give_away(self, to, task):
        if self.errands_out() >= MOST_OUT or self.given[to] >= MOST_GIVEN:
            return [FULL]
        self.errands[to].append((self.given[to], task))
        self.given[to] += 1
        return [OK]

    def finish(self):
        if self.work is None:
            return [NONE_THERE]
        self.work = None
        return [OK]

    def say(self, to):
        if to >= self.machines or to == self.me:
            return [NOT_VALID]
        message = message_of(
            self.me, to, self.taken[to], self.oldest_errand(to), self.wave_said(to), self.report_said(to)
        )
        return [OK] + message

    def errands_out(self):
        return sum([len(errands) for errands in self.errands])

    def oldest_errand(self, to):
        if len(self.errands[to]) == 0:
            return NO_ERRAND
        oldest = self.errands[to][0]
        return (1, oldest[0], oldest[1])

    def wave_said(self, to):
        if self.me == 0 or to == 0:
            return self.wave
        return 0

    def report_said(self, to):
        # Machine 0 keeps its own report, so nobody else has a use for one.
        if to == 0:
            return self.report
        return NO_REPORT


def start(objects, which, me, machines, tasks):
    if len(tasks) > MOST_AT_START:
        return [NOT_VALID]
    if machines < FEWEST_MACHINES or machines > MOST_MACHINES or me >= machines:
        return [NOT_VALID]
    objects[which] = Machine(me, machines, tasks)
    return [OK]


def call_at(calls, place):
    """The numbers of the call that begins at this place."""
    number = calls[place]
    size = SIZES[number]
    if number == START:
        size += calls[place + size - 1]
    return calls[place:place + size]


def answer(objects, call):
    number = call[0]
    if number == START:
        return start(objects, call[1], call[2], call[3], call[5:])
    machine = objects[call[1]]
    if number == TAKE:
        return machine.take()
    if number == GIVE:
        return machine.give(call[2], call[3])
    if number == FINISH:
        return machine.finish()
    return machine.say(call[2])


def answers(calls):
    """What the calls answer, one behind another, each with how many numbers it answers before it."""
    objects = [None] * OBJECTS
    answered = []
    place = 0
    while place < len(calls):
        call = call_at(calls, place)
        numbers = answer(objects, call)
        answered.append(len(numbers))
        answered.extend(numbers)
        place += len(call)
    return answered
