import unittest

from helper import TOP, ask, done, finish, give, heard, message, say, start, take, view, wave


class Start(unittest.TestCase):
    def answer(self, me, machines, tasks=()):
        return ask(start(0, me, machines, tasks))[0]

    def test_a_start_is_answered_with_0_alone(self):
        self.assertEqual(self.answer(0, 2), [0])
        self.assertEqual(self.answer(1, 3, [5, 0, TOP]), [0])

    def test_64_tasks_wait_and_65_to_100_are_refused(self):
        self.assertEqual(self.answer(0, 2, range(64)), [0])
        self.assertEqual(self.answer(0, 2, range(65)), [-22])
        self.assertEqual(self.answer(0, 2, range(100)), [-22])

    def test_all_64_tasks_are_there(self):
        calls = [start(0, 0, 2, range(100, 164))]
        for _ in range(64):
            calls += [take(0), finish(0)]
        answered = ask(*calls, take(0))
        self.assertEqual(answered[1::2], [[0, task] for task in range(100, 164)] + [[-11]])

    def test_2_to_16_machines(self):
        for machines in range(2, 17):
            self.assertEqual(self.answer(0, machines), [0])
        for machines in (0, 1, 17, 18, 256, TOP):
            self.assertEqual(self.answer(0, machines), [-22])

    def test_me_is_below_machines(self):
        for machines in (2, 3, 16):
            self.assertEqual(self.answer(machines - 1, machines), [0])
            self.assertEqual(self.answer(machines, machines), [-22])
            self.assertEqual(self.answer(TOP, machines), [-22])

    def test_all_that_is_wrong_at_once(self):
        self.assertEqual(self.answer(20, 20, range(65)), [-22])

    def test_a_start_that_follows_a_refused_one(self):
        answered = ask(start(0, 2, 2, [1]), start(0, 0, 17, [2]), start(0, 1, 2, [3]), take(0), say(0, 0))
        self.assertEqual(answered, [[-22], [-22], [0], [0, 3], [0] + message(1, 0)])


class StartAgain(unittest.TestCase):
    BUSY = (start(0, 1, 3, [7, 8]), take(0), give(0, 2, 9), give(0, 1, 10))

    def test_one_that_is_taken_makes_all_new(self):
        answered = ask(*self.BUSY, start(0, 2, 4, [11]), finish(0), say(0, 1), say(0, 3), take(0), finish(0), take(0))
        self.assertEqual(answered[4:], [
            [0], [-11], [0] + message(2, 1), [0] + message(2, 3), [0, 11], [0], [-11],
        ])

    def test_one_that_is_taken_frees_what_was_out(self):
        away = [give(0, 1, 5)] * 256
        calls = [start(0, 0, 2, [1]), take(0)] + away + [give(0, 1, 5), start(0, 0, 2, [1]), take(0)] + away
        answered = ask(*calls)
        self.assertEqual(answered[258], [-28])
        self.assertEqual(answered[261:], [[0]] * 256)

    def test_one_that_is_refused_leaves_all(self):
        after = (take(0), say(0, 2), say(0, 0), say(0, 3), finish(0), take(0), finish(0), take(0))
        plain = ask(*self.BUSY, *after)
        for refused in (start(0, 0, 2, range(65)), start(0, 0, 1), start(0, 0, 17), start(0, 3, 3, [4])):
            answered = ask(*self.BUSY, refused, *after)
            self.assertEqual(answered[4], [-22])
            self.assertEqual(answered[:4] + answered[5:], plain)
        self.assertEqual(plain[4:], [
            [-16], [0] + message(1, 2, errand=(0, 9)), [0] + message(1, 0), [-22], [0], [0, 8], [0], [0, 10],
        ])

    def test_errands_waves_and_reports_of_machine_0_are_gone(self):
        told = []
        for number in (1, 2):
            told += [wave(0), heard(0, message(1, 0, errand=(number - 1, 9), rests=1, taken=1, wave=number))]
            told += [take(0), finish(0)]
        before = (start(0, 0, 2, [7]), take(0), give(0, 1, 8), give(0, 1, 8), finish(0), *told, wave(0))
        new = (start(0, 0, 2, [7]), *view(0, 0, 2), wave(0), *view(0, 0, 2), wave(0), take(0), give(0, 1, 8), say(0, 1))
        answered = ask(*before, *new)[len(before):]
        self.assertEqual(answered, ask(*new))
        self.assertEqual(answered, [
            [0], [0, 1, 0, 0, 0], [0], [0] + message(0, 1),
            [0], [0, 1, 0, 0, 1], [0], [0] + message(0, 1, wave=1),
            [-16], [0, 7], [0], [0] + message(0, 1, errand=(0, 8), wave=1),
        ])

    def test_that_all_is_done_is_gone(self):
        reports = [heard(0, message(1, 0, rests=1, wave=number)) for number in (1, 2)]
        line = (start(0, 0, 2), wave(0), reports[0], wave(0), reports[1], wave(0), done(0))
        again = ask(*line, *line, start(0, 0, 2), done(0), start(0, 1, 2), done(0))
        self.assertEqual(again[:7], again[7:14])
        self.assertEqual(again[5:7] + again[14:], [[1], [1], [0], [0], [0], [-22]])

    def test_errands_waves_and_reports_of_another_are_gone(self):
        hears = heard(0, message(0, 1, errand=(0, 9), taken=1, wave=4))
        answered = ask(*self.BUSY, hears, *view(0, 1, 3), start(0, 1, 3), *view(0, 1, 3), hears, say(0, 0))
        self.assertEqual(answered[4:8], [
            [1], [0, 3, 1, 1, 4], [-22], [0] + message(1, 0, taken=1, wave=4, sent=1, all_taken=1),
        ])
        self.assertEqual(answered[9:], [
            [0], [0, 0, 0, 0, 0], [-22], [0] + message(1, 0), [0] + message(1, 2), [1],
            [0] + message(1, 0, taken=1, wave=4, all_taken=1),
        ])

    def test_a_refused_one_leaves_waves_and_reports(self):
        wrong = start(0, 2, 2, [4])
        for line in (
            (start(0, 0, 2), wave(0), heard(0, message(1, 0, rests=1, wave=1)), wave(0),
             heard(0, message(1, 0, rests=1, wave=2)), wave(0), *view(0, 0, 2), wave(0)),
            (start(0, 1, 2, [5]), heard(0, message(0, 1, errand=(0, 6), wave=3)), *view(0, 1, 2),
             heard(0, message(0, 1, errand=(0, 6), wave=3))),
        ):
            plain = ask(*line)
            for place in range(1, len(line) + 1):
                answered = ask(*line[:place], wrong, *line[place:])
                self.assertEqual(answered.pop(place), [-22])
                self.assertEqual(answered, plain)


if __name__ == "__main__":
    unittest.main()
