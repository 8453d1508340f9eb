"""The machines, and the calls that are made on them."""

from alldone.messages import MOST_MACHINES, NO_ERRAND, NO_REPORT, Message, is_right, message_of

MOST_AT_START = 64
MOST_WAITING = 1024
MOST_OUT = 256
FEWEST_MACHINES = 2
# Of the errands to one machine, and of the waves: their numbers go into four bytes.
MOST_COUNTED = 4294967295

OK = 0
NONE_THERE = -11
BUSY = -16
NOT_VALID = -22
FULL = -28
NOT_RIGHT = -71

OBJECTS = 4

START = 0
TAKE = 1
GIVE = 2
FINISH = 3
SAY = 4
HEARD = 5
WAVE = 6
DONE = 7

# How many numbers a call has, by its number, its row not counted: the last of them tells how many that has.
SIZES = (5, 2, 4, 2, 3, 3, 2, 2, 2)


class Machine:
    """One machine; each call answers a list: the number that is answered, then what else is."""

    def __init__(self, me, machines, tasks):
        self.me = me
        self.machines = machines
        self.waiting = list(tasks)
        # None, since 0 is a task like any other.
        self.work = None
        # For each machine: its errands that are out, the oldest first, as (number, task).
        self.errands = [[] for other in range(machines)]
        self.given = [0] * machines
        self.taken = [0] * machines
        # Machine 0: the present wave; any other: the last it heard of, with the report that it made then.
        self.wave = 0
        self.report = NO_REPORT
        # Machine 0 alone: for each machine its report in the present wave, or None, and in the one before.
        self.reports = [NO_REPORT] * machines
        # There is none before wave 0; one in which nobody rests tells the same.
        self.reports_before = [NO_REPORT] * machines
        self.all_done = 0

    def take(self):
        if self.work is not None:
            return [BUSY]
        if len(self.waiting) == 0:
            return [NONE_THERE]
        self.work = self.waiting.pop(0)
        return [OK, self.work]

    def give(self, to, task):
        if to >= self.machines:
            return [NOT_VALID]
        if self.work is None:
            return [NONE_THERE]
        if to == self.me:
            return self.give_here(task)
        return self.give_away(to, task)

    def give_here(self, task):
        if len(self.waiting) >= MOST_WAITING:
            return [FULL]
        self.waiting.append(task)
        return [OK]

    def give_away(self, to, task):
        if self.errands_out() >= MOST_OUT or self.given[to] >= MOST_COUNTED:
            return [FULL]
        self.errands[to].append((self.given[to], task))
        self.given[to] += 1
        return [OK]

    def finish(self):
        if self.work is None:
            return [NONE_THERE]
        self.work = None
        return [OK]

    def say(self, to):
        if to >= self.machines or to == self.me:
            return [NOT_VALID]
        message = message_of(
            self.me, to, self.taken[to], self.oldest_errand(to), self.wave_said(to), self.report_said(to)
        )
        return [OK] + message

    def hear(self, numbers):
        if not is_right(numbers):
            return [NOT_RIGHT]
        message = Message(numbers)
        if message.to != self.me or message.sender == self.me or message.sender >= self.machines:
            return [NOT_RIGHT]
        self.drop_errands(message.sender, message.taken)
        taken = self.take_errand(message.sender, message.errand)
        # Behind the errand, so that a report that is made now counts it.
        self.hear_wave(message)
        return [taken]

    def make_wave(self):
        if self.me != 0:
            return [NOT_VALID]
        if None in self.reports:
            return [BUSY]
        if self.wave >= MOST_COUNTED:
            return [FULL]
        if shows_all_done(self.reports_before, self.reports):
            self.all_done = 1
        self.wave += 1
        self.reports_before = self.reports
        self.reports = [None] * self.machines
        self.reports[0] = self.report_now()
        return [self.all_done]

    def tell_done(self):
        if self.me != 0:
            return [NOT_VALID]
        return [self.all_done]

    def state(self):
        works = 0 if self.work is None else 1
        return [OK, len(self.waiting), works, self.errands_out(), self.wave]

    def drop_errands(self, to, taken):
        self.errands[to] = [errand for errand in self.errands[to] if errand[0] >= taken]

    def take_errand(self, sender, errand):
        """1 if it was taken, else 0; errand is formed like NO_ERRAND."""
        if errand[0] == 0 or errand[1] != self.taken[sender] or errand[1] >= MOST_COUNTED:
            return 0
        if len(self.waiting) >= MOST_WAITING:
            return 0
        self.waiting.append(errand[2])
        self.taken[sender] += 1
        return 1

    def hear_wave(self, message):
        if self.me == 0:
            self.keep_report(message)
        elif message.sender == 0 and message.wave > self.wave:
            self.wave = message.wave
            self.report = self.report_now()

    def keep_report(self, message):
        # A machine that was begun again may report a second time for one wave: the first holds.
        if message.wave == self.wave and self.reports[message.sender] is None:
            self.reports[message.sender] = message.report

    def report_now(self):
        rests = 1 if self.work is None and len(self.waiting) == 0 else 0
        return (rests, sum(self.given), sum(self.taken))

    def errands_out(self):
        return sum([len(errands) for errands in self.errands])

    def oldest_errand(self, to):
        if len(self.errands[to]) == 0:
            return NO_ERRAND
        oldest = self.errands[to][0]
        return (1, oldest[0], oldest[1])

    def wave_said(self, to):
        if self.me == 0 or to == 0:
            return self.wave
        return 0

    def report_said(self, to):
        # Machine 0 keeps its own report among those of all; nobody else has a use for it.
        if to == 0:
            return self.report
        return NO_REPORT


def shows_all_done(before, complete):
    """Whether the reports of a complete wave and of the one before it show that all is done."""
    rested = all([report[0] == 1 for report in before])
    taken = sum([report[2] for report in before])
    sent = sum([report[1] for report in complete])
    return rested and taken == sent


def start(objects, which, me, machines, tasks):
    if len(tasks) > MOST_AT_START:
        return [NOT_VALID]
    if machines < FEWEST_MACHINES or machines > MOST_MACHINES or me >= machines:
        return [NOT_VALID]
    objects[which] = Machine(me, machines, tasks)
    return [OK]


def call_at(calls, place):
    """The numbers of the call that begins at this place."""
    number = calls[place]
    size = SIZES[number]
    if number == START or number == HEARD:
        size += calls[place + size - 1]
    return calls[place:place + size]


def answer(objects, call):
    number = call[0]
    if number == START:
        return start(objects, call[1], call[2], call[3], call[5:])
    machine = objects[call[1]]
    if number == TAKE:
        return machine.take()
    if number == GIVE:
        return machine.give(call[2], call[3])
    if number == FINISH:
        return machine.finish()
    if number == SAY:
        return machine.say(call[2])
    if number == HEARD:
        return machine.hear(call[3:])
    if number == WAVE:
        return machine.make_wave()
    if number == DONE:
        return machine.tell_done()
    return machine.state()


def answers(calls):
    """What the calls answer, one behind another, each with how many numbers it answers before it."""
    objects = [None] * OBJECTS
    answered = []
    place = 0
    while place < len(calls):
        call = call_at(calls, place)
        numbers = answer(objects, call)
        answered.append(len(numbers))
        answered.extend(numbers)
        place += len(call)
    return answered
