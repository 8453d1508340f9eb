import unittest

from alldone.machines import Machine
from helper import TOP, ask, done, finish, give, heard, message, say, start, state, take, view, wave


def report(of, number, rests=1, sent=0, taken=0):
    """Object 0, which is machine 0, hears this report for the wave of this number."""
    return heard(0, message(of, 0, rests=rests, wave=number, sent=sent, all_taken=taken))


class WaveRefused(unittest.TestCase):
    def test_on_another_machine_than_0(self):
        for me in (1, 2):
            shown = view(0, me, 3)
            plain = ask(start(0, me, 3), *shown)[1:]
            self.assertEqual(ask(start(0, me, 3), wave(0), *shown)[1:], [[-22]] + plain)

    def test_on_another_machine_that_is_object_0_and_on_machine_0_that_is_another_object(self):
        answered = ask(start(0, 1, 2), start(3, 0, 2), wave(0), wave(3), wave(3))
        self.assertEqual(answered[2:], [[-22], [0], [-16]])

    def test_the_present_wave_is_not_complete(self):
        shown = view(0, 0, 3)
        begun = (start(0, 0, 3), wave(0), report(2, 1))
        self.assertEqual(ask(*begun, wave(0), *shown)[3:], [[-16]] + ask(*begun, *shown)[3:])

    def test_each_report_is_waited_for(self):
        for missing in range(1, 16):
            others = [report(of, 1) for of in range(1, 16) if of != missing]
            answered = ask(start(0, 0, 16), wave(0), *others, wave(0), report(missing, 1), wave(0), state(0))
            self.assertEqual(answered[16:], [[-16], [0], [0], [0, 0, 0, 0, 2]])

    def test_there_were_as_many_waves_as_there_can_be(self):
        machine = Machine(0, 2, [])
        machine.wave = TOP - 1
        self.assertEqual(machine.make_wave(), [0])
        self.assertEqual(machine.make_wave(), [-16])
        machine.hear(message(1, 0, rests=1, wave=TOP))
        self.assertEqual(machine.make_wave(), [-28])
        self.assertEqual(machine.state(), [0, 0, 0, 0, TOP])
        self.assertEqual(machine.tell_done(), [0])
        self.assertEqual(machine.say(1), [0] + message(0, 1, wave=TOP))


class FirstWaves(unittest.TestCase):
    def test_the_first_is_made_from_wave_0_at_once(self):
        for machines in (2, 16):
            answered = ask(start(0, 0, machines), state(0), wave(0), state(0), done(0))
            self.assertEqual(answered[1:], [[0, 0, 0, 0, 0], [0], [0, 0, 0, 0, 1], [0]])

    def test_nobody_rests_in_wave_0(self):
        answered = ask(start(0, 0, 2), wave(0), report(1, 1), wave(0), done(0), report(1, 2), wave(0), done(0))
        self.assertEqual(answered[1:], [[0], [0], [0], [0], [0], [1], [1]])

    def test_reports_for_wave_0_are_there_already(self):
        answered = ask(
            start(0, 0, 2), report(1, 0), wave(0), report(1, 1), wave(0), done(0), report(1, 2), wave(0), done(0),
        )
        self.assertEqual(answered[1:], [[0], [0], [0], [0], [0], [0], [1], [1]])


class Reports(unittest.TestCase):
    def test_for_another_wave(self):
        answered = ask(
            start(0, 0, 2), wave(0), report(1, 0), report(1, 2), report(1, TOP), wave(0), report(1, 1), wave(0),
            report(1, 1), wave(0), report(1, 2), wave(0),
        )
        self.assertEqual(answered[1:], [[0], [0], [0], [0], [-16], [0], [0], [0], [-16], [0], [1]])

    def test_a_second_one_of_the_same_machine(self):
        first = ask(
            start(0, 0, 2), wave(0), report(1, 1, rests=0), report(1, 1), wave(0), report(1, 2), wave(0),
        )
        self.assertEqual(first[6], [0])
        second = ask(
            start(0, 0, 2), wave(0), report(1, 1), report(1, 1, rests=0, sent=3, taken=3), wave(0), report(1, 2),
            report(1, 2, rests=0, sent=5, taken=5), wave(0),
        )
        self.assertEqual(second[7], [1])

    def test_one_of_a_machine_does_not_stand_for_another(self):
        answered = ask(start(0, 0, 3), wave(0), report(1, 1), report(1, 1), wave(0), report(2, 1), wave(0))
        self.assertEqual(answered[4:], [[-16], [0], [0]])

    def test_one_comes_with_an_errand(self):
        answered = ask(
            start(0, 0, 2), wave(0), heard(0, message(1, 0, errand=(0, 5), rests=1, wave=1, sent=1)), wave(0),
            take(0), finish(0), report(1, 2, sent=1), wave(0), report(1, 3, sent=1), wave(0),
            report(1, 4, sent=1), wave(0),
        )
        self.assertEqual([answered[2]] + answered[3:12:2], [[1], [0], [0], [0], [0], [1]])

    def test_machine_0_makes_its_own_as_it_makes_the_wave(self):
        calls = (report(1, 1), wave(0), report(1, 2), wave(0), done(0))
        early = ask(start(0, 0, 2, [5]), take(0), wave(0), finish(0), *calls)
        in_time = ask(start(0, 0, 2, [5]), take(0), finish(0), wave(0), *calls)
        self.assertEqual([early[-1], in_time[-1]], [[0], [1]])
        waiting = ask(start(0, 0, 2, [5]), wave(0), take(0), finish(0), *calls)
        self.assertEqual(waiting[-1], [0])

    def test_what_machine_0_sent_and_took(self):
        begun = (
            start(0, 0, 3, [5]), take(0), give(0, 1, 6), give(0, 2, 7), give(0, 2, 8), finish(0),
            heard(0, message(1, 0, errand=(0, 9), taken=1)), take(0), finish(0), wave(0),
        )
        for sent, taken, told in ((1, 3, 1), (1, 2, 0), (1, 4, 0), (0, 3, 0), (2, 3, 0), (2, 4, 1)):
            answered = ask(
                *begun, report(1, 1, sent=sent, taken=taken), report(2, 1), wave(0),
                report(1, 2, sent=sent, taken=taken), report(2, 2), wave(0),
            )
            self.assertEqual(answered[-1], [told], (sent, taken))


class AllDone(unittest.TestCase):
    def told(self, *waves):
        """What the wave behind these answers; each of them is the (rests, sent, taken) of machines 1 and 2."""
        calls = [start(0, 0, 3), wave(0)]
        for number, reports in enumerate(waves, 1):
            for of, (rests, sent, taken) in enumerate(reports, 1):
                calls.append(report(of, number, rests, sent, taken))
            calls.append(wave(0))
        return ask(*calls)[-1]

    def test_all_rest_and_nothing_was_sent(self):
        quiet = ((1, 0, 0), (1, 0, 0))
        self.assertEqual([self.told(quiet), self.told(quiet, quiet), self.told(quiet, quiet, quiet)], [[0], [1], [1]])

    def test_all_rested_in_the_one_before(self):
        quiet = ((1, 0, 0), (1, 0, 0))
        for busy in (((0, 0, 0), (1, 0, 0)), ((1, 0, 0), (0, 0, 0)), ((0, 0, 0), (0, 0, 0))):
            self.assertEqual(self.told(busy, quiet), [0])
            self.assertEqual(self.told(quiet, busy), [1])
            self.assertEqual(self.told(busy, quiet, quiet), [1])
            self.assertEqual(self.told(busy, busy, busy), [0])

    def test_taken_in_the_one_before_and_sent_in_the_complete_one(self):
        for first, second, told in (
            (((1, 2, 3), (1, 4, 2)), ((1, 1, 9), (1, 4, 9)), 1),
            (((1, 5, 3), (1, 0, 2)), ((1, 2, 5), (1, 4, 1)), 0),
            (((1, 5, 3), (1, 0, 2)), ((1, 0, 5), (1, 4, 0)), 0),
            (((1, 0, 0), (1, 0, 0)), ((1, 0, 1), (1, 0, 0)), 1),
            (((1, 0, 0), (1, 0, 0)), ((1, 1, 0), (1, 0, 0)), 0),
            (((1, 0, 0), (1, 0, 0)), ((1, 0, 0), (1, 1, 0)), 0),
            (((1, 1, 0), (1, 0, 0)), ((1, 0, 0), (1, 0, 0)), 1),
            (((1, 0, 1), (1, 0, 0)), ((1, 0, 1), (1, 0, 0)), 0),
            (((1, 0, 0), (1, 0, 1)), ((1, 0, 0), (1, 0, 1)), 0),
            (((1, 0, 0), (1, 0, 7)), ((1, 7, 0), (1, 0, 0)), 1),
        ):
            self.assertEqual(self.told(first, second), [told], (first, second))

    def test_the_last_two_waves_alone_count(self):
        one = ((1, 0, 4), (1, 0, 0))
        four = ((1, 4, 0), (1, 0, 0))
        self.assertEqual(self.told(one, ((1, 3, 5), (1, 0, 0)), four), [0])
        self.assertEqual(self.told(((0, 0, 0), (0, 0, 0)), one, four), [1])

    def test_great_numbers_are_not_cut_off(self):
        most = 2 ** 64 - 1
        self.assertEqual(self.told(((1, 0, most), (1, 0, 1)), ((1, 0, 0), (1, 0, 0))), [0])
        self.assertEqual(self.told(((1, 0, most), (1, 0, most)), ((1, most, 0), (1, most, 0))), [1])
        self.assertEqual(self.told(((1, 0, 2 ** 32), (1, 0, 0)), ((1, 0, 0), (1, 0, 0))), [0])

    def test_it_stays_so(self):
        calls = [start(0, 0, 2), wave(0), report(1, 1), wave(0), report(1, 2), wave(0)]
        for number in (3, 4, 5):
            calls += [done(0), report(1, number, rests=0, sent=number + 2, taken=1), wave(0)]
        answered = ask(*calls, done(0), wave(0), done(0))
        self.assertEqual(answered[5:], [[1]] + [[1], [0], [1]] * 3 + [[1], [-16], [1]])

    def test_a_report_alone_does_not_tell(self):
        answered = ask(start(0, 0, 2), wave(0), report(1, 1), wave(0), report(1, 2), done(0), wave(0), done(0))
        self.assertEqual(answered[5:], [[0], [1], [1]])


class Done(unittest.TestCase):
    def test_on_machine_0_at_first(self):
        self.assertEqual(ask(start(0, 0, 2), done(0), wave(0), done(0)), [[0], [0], [0], [0]])

    def test_on_another_machine(self):
        answered = ask(start(0, 1, 2), done(0), heard(0, message(0, 1, wave=3)), done(0), start(0, 15, 16), done(0))
        self.assertEqual(answered[1::2], [[-22]] * 3)


class State(unittest.TestCase):
    def test_at_first(self):
        self.assertEqual(ask(start(0, 0, 2), state(0))[1], [0, 0, 0, 0, 0])
        self.assertEqual(ask(start(0, 1, 2, range(64)), state(0))[1], [0, 64, 0, 0, 0])

    def test_its_numbers_as_it_works(self):
        for me, other, third in ((0, 1, 2), (2, 0, 1)):
            answered = ask(
                start(0, me, 3, [0, 5]), state(0), take(0), state(0), give(0, other, 6), give(0, third, 7), state(0),
                give(0, other, 8), give(0, me, 9), state(0), heard(0, message(other, me, taken=2)), state(0), finish(0),
                state(0), take(0), state(0),
            )
            shown = [part[1:] for part in answered if len(part) == 5]
            self.assertEqual(shown, [
                [2, 0, 0, 0], [1, 1, 0, 0], [1, 1, 2, 0], [2, 1, 3, 0], [2, 1, 1, 0], [2, 0, 1, 0], [1, 1, 1, 0],
            ])

    def test_after_waves_were_made(self):
        answered = ask(
            start(0, 0, 2, [5]), take(0), give(0, 1, 6), wave(0), state(0), wave(0), state(0), report(1, 1), state(0),
            wave(0), state(0),
        )
        self.assertEqual(answered[4::2], [[0, 0, 1, 1, 1], [0, 0, 1, 1, 1], [0, 0, 1, 1, 1], [0, 0, 1, 1, 2]])

    def test_after_waves_were_heard_of(self):
        answered = ask(
            start(0, 1, 3, [5]), take(0), give(0, 2, 6), heard(0, message(0, 1, errand=(0, 8), wave=7)), state(0),
            heard(0, message(0, 1, wave=6)), state(0), heard(0, message(2, 1, taken=1, wave=8)), state(0),
        )
        self.assertEqual(answered[4::2], [[0, 1, 1, 1, 7], [0, 1, 1, 1, 7], [0, 1, 1, 0, 7]])


class SayAfterWaves(unittest.TestCase):
    def test_machine_0_says_its_wave_and_no_report(self):
        answered = ask(
            start(0, 0, 3, [5]), take(0), give(0, 1, 6), finish(0), heard(0, message(2, 0, errand=(0, 7))), take(0),
            finish(0), wave(0), say(0, 1), say(0, 2), report(1, 1), report(2, 1), wave(0), say(0, 1), say(0, 2),
        )
        self.assertEqual(answered[8:10] + answered[13:], [
            [0] + message(0, 1, errand=(0, 6), wave=1), [0] + message(0, 2, taken=1, wave=1),
            [0] + message(0, 1, errand=(0, 6), wave=2), [0] + message(0, 2, taken=1, wave=2),
        ])

    def test_another_says_to_machine_0_the_report_that_it_made_then(self):
        answered = ask(
            start(0, 1, 3, [5]), heard(0, message(0, 1, wave=5)), say(0, 0), take(0), give(0, 2, 6), say(0, 0),
            finish(0), heard(0, message(2, 1, errand=(0, 7))), say(0, 0), take(0), finish(0),
            heard(0, message(0, 1, wave=6)), say(0, 0),
        )
        then = [0] + message(1, 0, wave=5)
        self.assertEqual([answered[2], answered[5], answered[8]], [then] * 3)
        self.assertEqual(answered[12], [0] + message(1, 0, rests=1, wave=6, sent=1, all_taken=1))

    def test_between_two_others_wave_and_report_are_0(self):
        answered = ask(
            start(0, 1, 3, [5]), take(0), give(0, 2, 6), finish(0), heard(0, message(0, 1, wave=5)), say(0, 2),
            say(0, 0),
        )
        self.assertEqual(answered[5:], [
            [0] + message(1, 2, errand=(0, 6)), [0] + message(1, 0, rests=1, wave=5, sent=1),
        ])


if __name__ == "__main__":
    unittest.main()
