import unittest

from alldone.machines import Machine
from alldone.messages import check_of, low_byte_first
from helper import TOP, ask, finish, give, message, say, start, take


class SayRefused(unittest.TestCase):
    def test_to_a_machine_that_is_not_there(self):
        self.assertEqual(ask(start(0, 0, 3), say(0, 3), say(0, TOP), say(0, 2))[1:3], [[-22], [-22]])
        self.assertEqual(ask(start(0, 0, 16), say(0, 16))[1], [-22])

    def test_to_itself(self):
        for me in range(3):
            answered = ask(start(0, me, 3), say(0, 0), say(0, 1), say(0, 2))[1:]
            self.assertEqual([to for to in range(3) if answered[to] == [-22]], [me])


class SayAtFirst(unittest.TestCase):
    def test_without_an_errand(self):
        for me in (0, 1, 14, 15):
            for to in (0, 1, 14, 15):
                if me != to:
                    self.assertEqual(ask(start(0, me, 16), say(0, to))[1], [0] + message(me, to))

    def test_written_out(self):
        answered = ask(start(0, 2, 3), say(0, 1))[1]
        self.assertEqual(answered[:37], [0, 2, 1] + [0] * 34)
        self.assertEqual(answered[37:], [137, 199, 121, 188])

    def test_rest_is_not_said_in_wave_0(self):
        resting = ask(start(0, 1, 2), say(0, 0))[1]
        working = ask(start(0, 1, 2, [5]), take(0), say(0, 0))[2]
        self.assertEqual(resting, working)
        self.assertEqual(resting[4], 0)

    def test_what_was_given_is_not_said_in_wave_0(self):
        answered = ask(start(0, 1, 3, [5]), take(0), give(0, 2, 6), finish(0), say(0, 0))
        self.assertEqual(answered[4], [0] + message(1, 0))


class SayErrands(unittest.TestCase):
    def test_one_errand(self):
        answered = ask(start(0, 0, 2, [5]), take(0), give(0, 1, 0x01020304), say(0, 1))[3]
        self.assertEqual(answered, [0] + message(0, 1, errand=(0, 0x01020304)))
        self.assertEqual(answered[1:17], [0, 1, 1, 0, 0, 0, 0, 0, 0, 0, 0, 0, 4, 3, 2, 1])

    def test_task_0_is_an_errand_too(self):
        answered = ask(start(0, 0, 2, [5]), take(0), give(0, 1, 0), say(0, 1))[3]
        self.assertEqual(answered, [0] + message(0, 1, errand=(0, 0)))
        self.assertEqual(answered[3], 1)

    def test_of_several_the_oldest(self):
        answered = ask(
            start(0, 1, 3, [5]), take(0), give(0, 0, TOP), give(0, 0, 7), give(0, 2, 8), give(0, 2, 9),
            say(0, 0), say(0, 2), finish(0), say(0, 0),
        )
        self.assertEqual(answered[6], [0] + message(1, 0, errand=(0, TOP)))
        self.assertEqual(answered[7], [0] + message(1, 2, errand=(0, 8)))
        self.assertEqual(answered[9], answered[6])

    def test_an_errand_to_another_is_not_said(self):
        answered = ask(start(0, 0, 3, [5]), take(0), give(0, 1, 6), say(0, 2))[3]
        self.assertEqual(answered, [0] + message(0, 2))

    def test_saying_changes_nothing(self):
        answered = ask(start(0, 0, 2, [5]), take(0), give(0, 1, 6), say(0, 1), say(0, 1), say(0, 0), say(0, 1))
        self.assertEqual(answered[3], answered[4])
        self.assertEqual(answered[3], answered[6])

    def test_a_later_number_and_what_was_taken(self):
        machine = Machine(2, 4, [5])
        machine.take()
        machine.given[3] = 0x0A0B0C0D
        machine.give(3, 6)
        machine.taken[3] = 0x01020304
        machine.taken[1] = 9
        said = machine.say(3)
        self.assertEqual(said, [0] + message(2, 3, errand=(0x0A0B0C0D, 6), taken=0x01020304))
        self.assertEqual(said[5:13], [4, 3, 2, 1, 0x0D, 0x0C, 0x0B, 0x0A])
        self.assertEqual(machine.say(1), [0] + message(2, 1, taken=9))


class SayWaves(unittest.TestCase):
    def test_machine_0_says_its_wave_and_no_report(self):
        machine = Machine(0, 3, [])
        machine.wave = 0x01020304
        machine.report = (1, 5, 6)
        for to in (1, 2):
            self.assertEqual(machine.say(to), [0] + message(0, to, wave=0x01020304))

    def test_others_say_wave_and_report_to_machine_0_alone(self):
        machine = Machine(1, 3, [])
        machine.wave = TOP
        machine.report = (1, 0x0102030405060708, 0x1112131415161718)
        said = machine.say(0)
        self.assertEqual(said, [0] + message(
            1, 0, rests=1, wave=TOP, sent=0x0102030405060708, all_taken=0x1112131415161718,
        ))
        self.assertEqual(said[21:37], [8, 7, 6, 5, 4, 3, 2, 1, 0x18, 0x17, 0x16, 0x15, 0x14, 0x13, 0x12, 0x11])
        self.assertEqual(machine.say(2), [0] + message(1, 2))


class Check(unittest.TestCase):
    def test_known_checks(self):
        self.assertEqual(check_of([]), 0)
        self.assertEqual(check_of(list(b"123456789")), 0xE3069283)
        self.assertEqual(check_of([0] * 32), 0x8A9136AA)
        self.assertEqual(check_of([255] * 32), 0x62A8AB43)
        self.assertEqual(check_of(list(range(32))), 0x46DD794E)

    def test_the_low_byte_first(self):
        self.assertEqual(low_byte_first(0xE3069283, 4), [0x83, 0x92, 0x06, 0xE3])

    def test_it_is_of_the_36_bytes_before_it(self):
        said = ask(start(0, 7, 9, [5]), take(0), give(0, 3, 77), say(0, 3))[3][1:]
        self.assertEqual(len(said), 40)
        self.assertEqual(low_byte_first(check_of(said[:36]), 4), said[36:])


if __name__ == "__main__":
    unittest.main()
