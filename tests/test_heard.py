import unittest

from alldone.machines import Machine
from alldone.messages import is_right
from helper import (
    TOP, ask, changed, done, finish, give, heard, message, say, sealed, start, state, take, view, wave,
)

# Machine 1 of 3: task 8 waits, it works at 7, one errand is out to machine 0 and one to machine 2.
BUSY = (start(0, 1, 3, [7, 8]), take(0), give(0, 0, 60), give(0, 2, 62))
SHOWN = view(0, 1, 3)
# Were it heard, the errand to machine 0 would be out no more, a task would wait, and a report would be made.
TEMPTING = message(0, 1, errand=(0, 77), taken=1, wave=4)


class HeardRefused(unittest.TestCase):
    def refuse(self, *messages):
        plain = ask(*BUSY, *SHOWN)[len(BUSY):]
        for said in messages:
            answered = ask(*BUSY, heard(0, said), *SHOWN)[len(BUSY):]
            self.assertEqual(answered[0], [-71], said)
            self.assertEqual(answered[1:], plain, said)

    def test_unchanged_it_is_heard(self):
        answered = ask(*BUSY, heard(0, TEMPTING), *SHOWN)[len(BUSY):]
        self.assertEqual(answered, [
            [1], [0, 2, 1, 1, 4], [-22],
            [0] + message(1, 0, taken=1, wave=4, sent=2, all_taken=1), [0] + message(1, 2, errand=(0, 62)),
        ])

    def test_a_check_that_is_wrong_by_any_bit_of_the_message(self):
        calls = []
        for place in range(40):
            for bit in range(8):
                said = list(TEMPTING)
                said[place] ^= 1 << bit
                calls.append(heard(0, said))
        answered = ask(*BUSY, *calls, *SHOWN)[len(BUSY):]
        self.assertEqual(answered[:320], [[-71]] * 320)
        self.assertEqual(answered[320:], ask(*BUSY, *SHOWN)[len(BUSY):])

    def test_other_checks(self):
        self.refuse(
            TEMPTING[:36] + [0] * 4, TEMPTING[:36] + [255] * 4, TEMPTING[:36] + TEMPTING[:35:-1],
            TEMPTING[:36] + [255 - number for number in TEMPTING[36:]], [0] * 40, [255] * 40,
        )

    def test_machines_of_16_and_more(self):
        for place in (0, 1):
            self.refuse(*[changed(TEMPTING, place, number) for number in (16, 17, 18, 32, 33, 128, 255)])
        for number in (16, 17, 255):
            answered = ask(start(0, 15, 16), heard(0, changed(message(0, 15), 0, number)), heard(0, message(14, 15)))
            self.assertEqual(answered, [[0], [-71], [0]])

    def test_a_third_or_fourth_byte_that_is_neither_0_nor_1(self):
        for said in (TEMPTING, message(0, 1, taken=1, wave=4)):
            for place in (2, 3):
                self.refuse(*[changed(said, place, number) for number in (2, 3, 4, 128, 255)])

    def test_a_number_or_a_task_without_an_errand(self):
        plain = message(0, 1, taken=1, wave=4)
        self.assertEqual(ask(*BUSY, heard(0, plain))[-1], [0])
        for place in range(8, 16):
            self.refuse(changed(plain, place, 1), changed(plain, place, 255))
        self.refuse(changed(TEMPTING, 2, 0), changed(message(0, 1, errand=(3, 0), taken=1, wave=4), 2, 0))

    def test_for_another_machine(self):
        self.refuse(changed(TEMPTING, 1, 0), changed(TEMPTING, 1, 2), changed(TEMPTING, 1, 3), changed(TEMPTING, 1, 15))

    def test_of_this_machine(self):
        self.refuse(changed(TEMPTING, 0, 1))
        self.assertEqual(ask(start(0, 0, 2), heard(0, message(0, 0, errand=(0, 5))), state(0))[1:], [
            [-71], [0, 0, 0, 0, 0],
        ])

    def test_of_a_machine_that_is_not_below_machines(self):
        self.refuse(changed(TEMPTING, 0, 3), changed(TEMPTING, 0, 4), changed(TEMPTING, 0, 15))
        self.assertEqual(ask(*BUSY, heard(0, changed(TEMPTING, 0, 2)))[-1], [1])

    def test_machine_0_keeps_no_report_of_what_it_refuses(self):
        report = message(1, 0, rests=1, wave=1)
        unsealed = report[:39] + [report[39] ^ 1]
        for wrong in (changed(report, 3, 2), changed(report, 0, 2), changed(report, 1, 1), unsealed):
            answered = ask(start(0, 0, 2), wave(0), heard(0, wrong), wave(0), heard(0, report), wave(0))
            self.assertEqual(answered[1:], [[0], [-71], [-16], [0], [0]])


class Right(unittest.TestCase):
    def test_machines_below_16(self):
        self.assertIs(is_right(message(15, 14)), True)
        for number in (16, 17, 255):
            self.assertIs(is_right(message(number, 0)), False)
            self.assertIs(is_right(message(0, number)), False)

    def test_all_the_rest_may_be_anything(self):
        self.assertTrue(is_right(sealed([3, 3, 1, 1] + [255] * 32)))
        self.assertTrue(is_right(sealed([0, 15, 0, 1] + [255] * 4 + [0] * 8 + [255] * 20)))


class OutNoMore(unittest.TestCase):
    AWAY = (start(0, 0, 3, [5]), take(0), *[give(0, 1, 10 + task) for task in range(4)], give(0, 2, 20), give(0, 2, 21))

    def after(self, *messages):
        """How many errands are out, and what is said to machines 1 and 2, once these were heard."""
        answered = ask(*self.AWAY, *[heard(0, said) for said in messages], state(0), say(0, 1), say(0, 2))[-3:]
        return answered[0][3], answered[1][1:], answered[2][1:]

    def test_those_with_numbers_below_what_was_taken(self):
        to_2 = message(0, 2, errand=(0, 20))
        self.assertEqual(self.after(message(1, 0)), (6, message(0, 1, errand=(0, 10)), to_2))
        self.assertEqual(self.after(message(1, 0, taken=1)), (5, message(0, 1, errand=(1, 11)), to_2))
        self.assertEqual(self.after(message(1, 0, taken=3)), (3, message(0, 1, errand=(3, 13)), to_2))
        self.assertEqual(self.after(message(1, 0, taken=4)), (2, message(0, 1), to_2))

    def test_more_taken_than_were_given(self):
        for taken in (5, 256, 65536, 16777216, TOP):
            self.assertEqual(self.after(message(1, 0, taken=taken))[:2], (2, message(0, 1)))

    def test_those_of_that_machine_alone(self):
        self.assertEqual(
            self.after(message(2, 0, taken=TOP)), (4, message(0, 1, errand=(0, 10)), message(0, 2)),
        )

    def test_a_late_message_brings_none_back(self):
        late = (message(1, 0, taken=3), message(1, 0, taken=1), message(1, 0), message(1, 0, taken=3))
        self.assertEqual(self.after(*late)[:2], (3, message(0, 1, errand=(3, 13))))

    def test_numbers_go_on_and_there_is_room_again(self):
        fill = [give(0, 1, 5)] * 256
        answered = ask(
            start(0, 0, 3, [5]), take(0), *fill, give(0, 2, 6), heard(0, message(1, 0, taken=1)), give(0, 2, 6),
            give(0, 2, 7), heard(0, message(1, 0, taken=256)), give(0, 1, 8), say(0, 1), state(0),
        )
        self.assertEqual(answered[258:], [
            [-28], [0], [0], [-28], [0], [0], [0] + message(0, 1, errand=(256, 8)), [0, 0, 1, 2, 0],
        ])

    def test_with_an_errand_that_is_not_taken(self):
        self.assertEqual(self.after(message(1, 0, errand=(9, 5), taken=2))[0], 4)


class TakeErrands(unittest.TestCase):
    def test_the_number_that_is_next(self):
        answered = ask(
            start(0, 1, 3, [5]), heard(0, message(0, 1, errand=(1, 70))), heard(0, message(0, 1, errand=(0, 71))),
            heard(0, message(0, 1, errand=(0, 72))), heard(0, message(0, 1, errand=(2, 73))),
            heard(0, message(0, 1, errand=(TOP, 74))), heard(0, message(0, 1, errand=(1, 75))), state(0), say(0, 0),
            take(0), finish(0), take(0), finish(0), take(0), finish(0), take(0),
        )
        self.assertEqual(answered[1:8], [[0], [1], [0], [0], [0], [1], [0, 3, 0, 0, 0]])
        self.assertEqual(answered[8], [0] + message(1, 0, taken=2))
        self.assertEqual(answered[9::2], [[0, 5], [0, 71], [0, 75], [-11]])

    def test_the_same_message_twice(self):
        said = heard(0, message(0, 1, errand=(0, 70)))
        answered = ask(start(0, 1, 2), said, said, take(0), said, finish(0), said, take(0), say(0, 0))
        self.assertEqual(answered[1:], [[1], [0], [0, 70], [0], [0], [0], [-11], [0] + message(1, 0, taken=1)])

    def test_each_machine_is_counted_by_itself(self):
        answered = ask(
            start(0, 1, 4), heard(0, message(0, 1, errand=(0, 70))), heard(0, message(2, 1, errand=(1, 71))),
            heard(0, message(2, 1, errand=(0, 72))), heard(0, message(0, 1, errand=(1, 73))),
            heard(0, message(3, 1)), say(0, 0), say(0, 2), say(0, 3),
        )
        self.assertEqual(answered[1:6], [[1], [0], [1], [1], [0]])
        self.assertEqual([said[5] for said in answered[6:]], [2, 1, 0])

    def test_machine_0_takes_errands_too(self):
        answered = ask(start(0, 0, 2), heard(0, message(1, 0, errand=(0, 0))), take(0), say(0, 1))
        self.assertEqual(answered[1:], [[1], [0, 0], [0] + message(0, 1, taken=1)])

    def test_any_task(self):
        for task in (0, 1, 0x01020304, TOP):
            self.assertEqual(ask(start(0, 1, 2), heard(0, message(0, 1, errand=(0, task))), take(0))[2], [0, task])

    def test_while_it_works_the_task_waits_last(self):
        answered = ask(
            start(0, 1, 2, [5, 6]), take(0), heard(0, message(0, 1, errand=(0, 70))), state(0), give(0, 1, 7),
            finish(0), take(0), finish(0), take(0), finish(0), take(0),
        )
        self.assertEqual(answered[2:4] + answered[6::2], [[1], [0, 2, 1, 0, 0], [0, 6], [0, 70], [0, 7]])

    def test_1023_and_1024_tasks_waiting(self):
        fill = [give(0, 1, 6)] * 1023
        errand = [heard(0, message(0, 1, errand=(number, 70 + number))) for number in range(2)]
        answered = ask(
            start(0, 1, 2, [5]), take(0), *fill, errand[0], state(0), errand[1], state(0), say(0, 0), finish(0),
            take(0), errand[1], errand[1], state(0),
        )
        self.assertEqual(answered[1025:], [
            [1], [0, 1024, 1, 0, 0], [0], [0, 1024, 1, 0, 0], [0] + message(1, 0, taken=1), [0], [0, 6],
            [1], [0], [0, 1024, 1, 0, 0],
        ])

    def test_with_1024_waiting_all_else_is_done(self):
        fill = [give(0, 1, 6)] * 1024
        answered = ask(
            start(0, 1, 2, [5]), take(0), give(0, 0, 9), *fill,
            heard(0, message(0, 1, errand=(0, 70), taken=1, wave=3)), state(0), say(0, 0),
        )
        self.assertEqual(answered[1027:], [[0], [0, 1024, 1, 0, 3], [0] + message(1, 0, wave=3, sent=1)])

    def test_the_last_number_that_is_taken(self):
        machine = Machine(1, 2, [])
        machine.taken[0] = TOP - 1
        self.assertEqual(machine.hear(message(0, 1, errand=(TOP - 1, 70))), [1])
        self.assertEqual(machine.hear(message(0, 1, errand=(TOP, 71))), [0])
        self.assertEqual(machine.hear(message(0, 1, errand=(0, 72))), [0])
        self.assertEqual(machine.say(0), [0] + message(1, 0, taken=TOP))
        self.assertEqual(machine.waiting, [70])


class HearOfWaves(unittest.TestCase):
    def test_a_greater_wave_and_one_that_is_not(self):
        working = [0] + message(1, 0, wave=3)
        answered = ask(
            start(0, 1, 2, [5]), heard(0, message(0, 1, wave=3)), say(0, 0), take(0), finish(0),
            heard(0, message(0, 1, wave=3)), say(0, 0), heard(0, message(0, 1, wave=2)), say(0, 0),
            heard(0, message(0, 1)), say(0, 0), heard(0, message(0, 1, wave=4)), say(0, 0), state(0),
        )
        self.assertEqual(answered[1:3], [[0], working])
        self.assertEqual(answered[5:11], [[0], working] * 3)
        self.assertEqual(answered[11:], [[0], [0] + message(1, 0, rests=1, wave=4), [0, 0, 0, 0, 4]])

    def test_waves_up_to_the_greatest(self):
        answered = ask(
            start(0, 2, 3), heard(0, message(0, 2, wave=1)), state(0), heard(0, message(0, 2, wave=TOP)), state(0),
            heard(0, message(0, 2, wave=TOP - 1)), say(0, 0),
        )
        self.assertEqual(answered[2::2], [
            [0, 0, 0, 0, 1], [0, 0, 0, 0, TOP], [0] + message(2, 0, rests=1, wave=TOP),
        ])

    def test_a_wave_that_another_machine_than_machine_0_says(self):
        answered = ask(
            start(0, 1, 3), heard(0, message(2, 1, rests=1, wave=9, sent=3, all_taken=3)), say(0, 0), state(0),
            heard(0, message(0, 1, wave=1)), state(0),
        )
        self.assertEqual(answered[1:4] + answered[5:], [
            [0], [0] + message(1, 0), [0, 0, 0, 0, 0], [0, 0, 0, 0, 1],
        ])

    def test_what_stands_in_the_report_of_machine_0_does_not_count(self):
        answered = ask(
            start(0, 1, 2, [5]), heard(0, message(0, 1, rests=1, wave=1, sent=8, all_taken=9)), say(0, 0),
        )
        self.assertEqual(answered[2], [0] + message(1, 0, wave=1))

    def test_an_errand_that_comes_with_a_greater_wave_is_taken_ahead_of_the_report(self):
        answered = ask(start(0, 1, 2), heard(0, message(0, 1, errand=(0, 70), wave=1)), say(0, 0))
        self.assertEqual(answered[1:], [[1], [0] + message(1, 0, taken=1, wave=1, all_taken=1)])

    def test_an_errand_that_was_taken_already_leaves_the_rest(self):
        answered = ask(
            start(0, 1, 2), heard(0, message(0, 1, errand=(0, 70))), take(0), finish(0),
            heard(0, message(0, 1, errand=(0, 70), wave=1)), say(0, 0),
        )
        self.assertEqual(answered[4:], [[0], [0] + message(1, 0, rests=1, taken=1, wave=1, all_taken=1)])

    def test_the_report_counts_errands_to_and_of_all_machines(self):
        answered = ask(
            start(0, 2, 4, [5]), take(0), give(0, 0, 1), give(0, 1, 2), give(0, 1, 3), give(0, 3, 4), give(0, 2, 5),
            heard(0, message(0, 2, errand=(0, 6))), heard(0, message(1, 2, errand=(0, 7), taken=2)),
            heard(0, message(3, 2, errand=(0, 8))), heard(0, message(3, 2, errand=(1, 9))),
            heard(0, message(0, 2, wave=1)), say(0, 0),
        )
        self.assertEqual(answered[-1], [0] + message(
            2, 0, errand=(0, 1), taken=1, wave=1, sent=4, all_taken=4,
        ))

    def test_greater_counts_than_four_bytes_hold(self):
        machine = Machine(1, 4, [])
        machine.given = [TOP, 0, TOP, 3]
        machine.taken = [TOP, 0, TOP, TOP]
        machine.hear(message(0, 1, wave=1))
        self.assertEqual(machine.say(0), [0] + message(
            1, 0, rests=1, taken=TOP, wave=1, sent=2 * TOP + 3, all_taken=3 * TOP,
        ))

    def test_rest_in_a_report(self):
        waiting = ask(start(0, 1, 2, [5]), heard(0, message(0, 1, wave=1)), say(0, 0))[-1]
        working = ask(start(0, 1, 2, [5]), take(0), heard(0, message(0, 1, wave=1)), say(0, 0))[-1]
        both = ask(start(0, 1, 2, [5, 6]), take(0), heard(0, message(0, 1, wave=1)), say(0, 0))[-1]
        resting = ask(start(0, 1, 2, [5]), take(0), finish(0), heard(0, message(0, 1, wave=1)), say(0, 0))[-1]
        task_0 = ask(start(0, 1, 2, [0]), take(0), heard(0, message(0, 1, wave=1)), say(0, 0))[-1]
        self.assertEqual([said[4] for said in (waiting, working, both, resting, task_0)], [0, 0, 0, 1, 0])

    def test_errands_that_are_out_do_not_keep_it_from_rest(self):
        answered = ask(
            start(0, 1, 3, [5]), take(0), give(0, 2, 6), finish(0), heard(0, message(0, 1, wave=1)), say(0, 0),
        )
        self.assertEqual(answered[-1], [0] + message(1, 0, rests=1, wave=1, sent=1))


class Rest(unittest.TestCase):
    def test_nothing_but_an_errand_ends_it(self):
        said = [
            message(0, 1), message(0, 1, taken=3, wave=2), message(2, 1, rests=1, wave=1), message(0, 1, errand=(4, 5)),
        ]
        calls = [take(0), finish(0), give(0, 1, 5), give(0, 0, 5), wave(0), done(0), *SHOWN, start(0, 3, 3, [1])]
        for call in calls + [heard(0, numbers) for numbers in said]:
            self.assertEqual(ask(start(0, 1, 3), call, state(0))[2][1:3], [0, 0], call)
        self.assertEqual(ask(start(0, 1, 3), heard(0, message(2, 1, errand=(0, 5))), state(0))[2][1:3], [1, 0])


if __name__ == "__main__":
    unittest.main()
