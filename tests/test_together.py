import unittest

from alldone.machines import answer
from helper import ask, done, finish, give, heard, message, say, start, state, take, wave


class Draw:
    """Numbers without order, the same at every run."""

    def __init__(self, seed):
        self.kept = seed

    def below(self, most):
        self.kept = (self.kept * 6364136223846793005 + 1442695040888963407) % 2 ** 64
        return (self.kept >> 33) % most


class Play:
    """Machines that play together. It sees all at a time, and each call and answer is kept."""

    def __init__(self, machines, tasks):
        self.machines = machines
        self.objects = [None] * 4
        self.calls = []
        self.answered = []
        self.waves = 0
        self.made = [task for row in tasks for task in row]
        self.working = [None] * machines
        self.finished = []
        self.taken_after_done = []
        self.told_early = []
        for me in range(machines):
            self.call(start(self.thing(me), me, machines, tasks[me]))

    def thing(self, me):
        """Another number than the machine's own, so that the two are not mixed up unseen."""
        return 3 - me

    def call(self, call):
        self.calls.append(call)
        self.answered.append(answer(self.objects, call))
        return self.answered[-1]

    def all_is_done(self):
        return sorted(self.finished) == sorted(self.made)

    def take(self, me):
        answered = self.call(take(self.thing(me)))
        if answered[0] == 0:
            self.working[me] = answered[1]
            if self.done():
                self.taken_after_done.append(answered[1])

    def finish(self, me):
        if self.call(finish(self.thing(me))) == [0]:
            self.finished.append(self.working[me])
            self.working[me] = None

    def give(self, me, to):
        task = 1000 + len(self.made)
        if self.call(give(self.thing(me), to, task)) == [0]:
            self.made.append(task)

    def say(self, me, to):
        return self.call(say(self.thing(me), to))[1:]

    def hear(self, said):
        return self.call(heard(self.thing(said[1]), said))[0]

    def wave(self):
        answered = self.call(wave(self.thing(0)))[0]
        if answered >= 0:
            self.waves += 1
        return answered

    def done(self):
        told = self.call(done(self.thing(0))) == [1]
        if told and not self.all_is_done():
            self.told_early.append(len(self.calls))
        return told

    def post(self, me, to):
        """A message that comes at once."""
        return self.hear(self.say(me, to))

    def pairs(self):
        return [(me, to) for me in range(self.machines) for to in range(self.machines) if me != to]

    def work_off(self, me):
        """Finishes what it works at, and all that waits."""
        self.finish(me)
        self.take(me)
        while self.working[me] is not None:
            self.finish(me)
            self.take(me)


def mix_up(play, draw, steps, most_made):
    """Work, and messages that are lost, doubled and late; gives back those that are still on their way."""
    under_way = []
    pairs = play.pairs()
    for _ in range(steps):
        step = draw.below(10)
        me, to = pairs[draw.below(len(pairs))]
        if step < 2:
            play.take(me)
        elif step < 4:
            if len(play.made) < most_made:
                play.give(me, [to, to, me][draw.below(3)])
        elif step < 5:
            play.finish(me)
        elif step < 8:
            said = play.say(me, to)
            if draw.below(4) > 0:
                under_way.append(said)
        elif under_way:
            place = draw.below(len(under_way))
            play.hear(under_way[place])
            if draw.below(3) > 0:
                under_way.pop(place)
        if draw.below(4) == 0:
            play.wave()
            play.done()
    return under_way


def go_on_till_done(play, late, rounds):
    """Work and messages of which none is lost, the late ones among them; gives back the waves that it took."""
    waves_then = None
    for _ in range(rounds):
        for me in range(play.machines):
            play.work_off(me)
        if waves_then is None and play.all_is_done():
            waves_then = play.waves
        play.wave()
        if play.done():
            return play.waves - waves_then
        for me, to in play.pairs():
            play.post(me, to)
        if late:
            play.hear(late.pop(0))
    return None


class MixedUp(unittest.TestCase):
    def play(self, machines, seed, steps=700, most_made=40):
        draw = Draw(seed)
        tasks = [[100 * me + task for task in range(draw.below(4))] for me in range(machines)]
        play = Play(machines, tasks)
        late = mix_up(play, draw, steps, most_made)
        waves = go_on_till_done(play, list(late), 60)
        self.assertIsNotNone(waves, seed)
        self.assertLessEqual(waves, 3, seed)
        for said in late:
            self.assertLess(play.hear(said), 1, seed)
        for me in range(machines):
            self.assertEqual(play.call(state(play.thing(me)))[1:3], [0, 0], seed)
            play.take(me)
        play.wave()
        self.assertTrue(play.done(), seed)
        return play

    def check(self, play, seed):
        self.assertEqual(sorted(play.finished), sorted(play.made), seed)
        self.assertEqual(play.told_early, [], seed)
        self.assertEqual(play.taken_after_done, [], seed)
        self.assertLessEqual(len(play.calls), 5000)
        self.assertLessEqual(sum(map(len, play.calls)), 30000)
        self.assertEqual(ask(*play.calls), play.answered, seed)

    def test_2_to_4_machines(self):
        for machines in (2, 3, 4):
            for seed in range(12):
                self.check(self.play(machines, seed), seed)


class BehindTheBack(unittest.TestCase):
    def test_a_task_that_goes_behind_a_wave(self):
        play = Play(3, [[], [], [5]])
        play.take(2)
        play.wave()
        play.post(0, 1)
        play.post(1, 0)
        # Machine 1 has told that it rests; now it's given work, and gives some itself.
        play.give(2, 1)
        play.finish(2)
        self.assertEqual(play.post(2, 1), 1)
        play.take(1)
        play.give(1, 2)
        self.assertEqual(play.post(1, 2), 1)
        play.work_off(2)
        play.post(0, 2)
        play.post(2, 0)
        # In wave 1 all rested, and as many were taken as were sent; and machine 1 works.
        self.assertEqual([play.wave(), play.done()], [0, False])
        for _ in range(3):
            for other in (1, 2):
                play.post(0, other)
                play.post(other, 0)
            self.assertEqual([play.wave(), play.done()], [0, False])
        play.work_off(1)
        self.assertTrue(play.all_is_done())
        self.assertIsNotNone(go_on_till_done(play, [], 5))
        self.assertEqual(ask(*play.calls), play.answered)

    def test_an_errand_that_is_lost_again_and_again(self):
        play = Play(2, [[5], []])
        play.take(0)
        play.give(0, 1)
        play.finish(0)
        for number in range(1, 7):
            self.assertEqual([play.wave(), play.done()], [0, False])
            said = play.say(0, 1)
            self.assertEqual(said, message(0, 1, errand=(0, 1001), wave=number))
            # The wave is heard of, the errand with it is not.
            play.hear(message(0, 1, wave=number))
            play.post(1, 0)
        self.assertEqual(play.hear(said), 1)
        self.assertEqual(play.hear(said), 0)
        self.assertEqual([play.wave(), play.done()], [0, False])
        # Machine 1 hears of wave 7 once all is done, so that waves 7 and 8 tell it as wave 9 is made.
        self.assertEqual(go_on_till_done(play, [said, said], 6), 2)


if __name__ == "__main__":
    unittest.main()
