import unittest

from alldone.machines import Machine
from helper import TOP, ask, finish, give, message, say, start, take


class Take(unittest.TestCase):
    def test_tasks_are_taken_in_the_order_in_which_they_wait(self):
        answered = ask(
            start(0, 0, 2, [9, 3, 9]), take(0), give(0, 0, 4), finish(0), take(0), give(0, 0, 1), finish(0),
            take(0), finish(0), take(0), finish(0), take(0), finish(0), take(0),
        )
        self.assertEqual(answered[1::3][:2] + answered[7::2], [[0, 9], [0, 3], [0, 9], [0, 4], [0, 1], [-11]])

    def test_none_waits(self):
        self.assertEqual(ask(start(0, 1, 2), take(0), take(0)), [[0], [-11], [-11]])

    def test_while_it_works_at_a_task(self):
        answered = ask(start(0, 0, 2, [5, 6]), take(0), take(0), take(0), finish(0), take(0))
        self.assertEqual(answered, [[0], [0, 5], [-16], [-16], [0], [0, 6]])

    def test_while_it_works_and_none_waits(self):
        self.assertEqual(ask(start(0, 0, 2, [5]), take(0), take(0)), [[0], [0, 5], [-16]])

    def test_task_0_and_the_greatest_are_tasks(self):
        answered = ask(start(0, 0, 2, [0, TOP]), take(0), take(0), give(0, 1, 0), finish(0), take(0), finish(0))
        self.assertEqual(answered, [[0], [0, 0], [-16], [0], [0], [0, TOP], [0]])


class Finish(unittest.TestCase):
    def test_with_a_task_and_without(self):
        answered = ask(start(0, 0, 2, [5]), finish(0), take(0), finish(0), finish(0), take(0))
        self.assertEqual(answered, [[0], [-11], [0, 5], [0], [-11], [-11]])


class GiveRefused(unittest.TestCase):
    def test_to_a_machine_that_is_not_there(self):
        answered = ask(start(0, 0, 3, [5]), take(0), give(0, 3, 1), give(0, TOP, 1), give(0, 2, 1))
        self.assertEqual(answered[2:], [[-22], [-22], [0]])

    def test_it_works_at_none(self):
        answered = ask(start(0, 0, 2, [5]), give(0, 0, 1), give(0, 1, 1), take(0), finish(0), give(0, 1, 1), take(0))
        self.assertEqual(answered[1:], [[-11], [-11], [0, 5], [0], [-11], [-11]])

    def test_22_goes_ahead_of_11(self):
        self.assertEqual(ask(start(0, 0, 2), give(0, 2, 1))[1], [-22])

    def test_22_and_11_go_ahead_of_28(self):
        fill = [give(0, 1, 5)] * 256
        answered = ask(
            start(0, 0, 2, [5]), take(0), *fill, give(0, 1, 5), give(0, 2, 5), finish(0), give(0, 1, 5), give(0, 2, 5),
        )
        self.assertEqual(answered[258:], [[-28], [-22], [0], [-11], [-22]])

    def test_22_and_11_go_ahead_of_28_here(self):
        fill = [give(0, 0, 5)] * 1024
        answered = ask(
            start(0, 0, 2, [5]), take(0), *fill, give(0, 0, 5), give(0, 2, 5), finish(0), give(0, 0, 5),
        )
        self.assertEqual(answered[1026:], [[-28], [-22], [0], [-11]])


class GiveHere(unittest.TestCase):
    def test_1024_wait_and_no_more(self):
        fill = [give(0, 1, task) for task in range(961)]
        answered = ask(start(0, 1, 2, range(64)), take(0), *fill, give(0, 1, 5), give(0, 1, 5))
        self.assertEqual(answered[2:], [[0]] * 961 + [[-28], [-28]])

    def test_what_was_refused_does_not_wait(self):
        fill = [give(0, 1, 6)] * 1024
        empty = [finish(0), take(0)] * 1024
        answered = ask(start(0, 1, 2, [5]), take(0), *fill, give(0, 1, 7), *empty, finish(0), take(0))
        self.assertEqual(answered[1026], [-28])
        self.assertEqual(answered[1027:], [[0], [0, 6]] * 1024 + [[0], [-11]])

    def test_one_more_after_one_was_taken(self):
        fill = [give(0, 0, 6)] * 1024
        answered = ask(
            start(0, 0, 2, [5]), take(0), *fill, finish(0), take(0), give(0, 0, 7), give(0, 0, 8),
        )
        self.assertEqual(answered[1026:], [[0], [0, 6], [0], [-28]])

    def test_others_are_given_to_while_1024_wait(self):
        fill = [give(0, 0, 6)] * 1024
        answered = ask(start(0, 0, 2, [5]), take(0), *fill, give(0, 0, 7), give(0, 1, 7))
        self.assertEqual(answered[1026:], [[-28], [0]])


class GiveAway(unittest.TestCase):
    def test_256_are_out_and_no_more(self):
        fill = [give(0, 1, task) for task in range(256)]
        answered = ask(start(0, 0, 2, [5]), take(0), *fill, give(0, 1, 5), give(0, 1, 5))
        self.assertEqual(answered[2:], [[0]] * 256 + [[-28], [-28]])

    def test_the_256_are_those_to_all_machines_together(self):
        fill = [give(0, 1 + task % 15, task) for task in range(256)]
        refused = [give(0, to, 5) for to in range(1, 16)]
        answered = ask(start(0, 0, 16, [5]), take(0), *fill, *refused)
        self.assertEqual(answered[2:], [[0]] * 256 + [[-28]] * 15)

    def test_this_machine_is_given_to_while_256_are_out(self):
        fill = [give(0, 0, 5)] * 256
        answered = ask(start(0, 1, 2, [5]), take(0), *fill, give(0, 0, 5), give(0, 1, 8), finish(0), take(0))
        self.assertEqual(answered[258:], [[-28], [0], [0], [0, 8]])

    def test_an_errand_does_not_wait_here(self):
        answered = ask(start(0, 0, 2, [5]), take(0), give(0, 1, 8), finish(0), take(0))
        self.assertEqual(answered[2:], [[0], [0], [-11]])

    def test_what_was_refused_is_not_out(self):
        fill = [give(0, 1, 5)] * 256
        answered = ask(start(0, 0, 3, [5]), take(0), *fill, give(0, 2, 6), say(0, 2))
        self.assertEqual(answered[258:], [[-28], [0] + message(0, 2)])

    def test_errands_to_each_machine_are_numbered_by_themselves(self):
        machine = Machine(1, 4, [5])
        machine.take()
        for to in (2, 0, 2, 3, 2, 1, 0):
            self.assertEqual(machine.give(to, 10 + to), [0])
        self.assertEqual(machine.errands, [[(0, 10), (1, 10)], [], [(0, 12), (1, 12), (2, 12)], [(0, 13)]])

    def test_the_last_number_that_an_errand_may_have(self):
        machine = Machine(0, 3, [5])
        machine.take()
        machine.given[1] = TOP - 1
        self.assertEqual(machine.give(1, 6), [0])
        self.assertEqual(machine.give(1, 7), [-28])
        self.assertEqual(machine.say(1), [0] + message(0, 1, errand=(TOP - 1, 6)))
        self.assertEqual(machine.give(2, 7), [0])


if __name__ == "__main__":
    unittest.main()
