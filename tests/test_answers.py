import unittest

from alldone.machines import answers
from helper import ask, done, finish, give, heard, message, say, split, start, state, take, wave

LINE = (
    start(0, 0, 2, [1, 2]) + take(0) + give(0, 1, 3) + give(0, 0, 4) + say(0, 1) + say(0, 0)
    + start(3, 1, 2, []) + take(3) + say(3, 0) + start(3, 2, 2, [9]) + finish(0) + take(0)
    + wave(0) + wave(0) + heard(3, message(0, 1, errand=(0, 3), wave=1)) + state(3) + done(3) + wave(3)
    + heard(0, message(1, 0, rests=1, taken=1, wave=1)) + heard(0, message(1, 0, rests=1, taken=1)[::-1])
    + wave(0) + heard(0, message(1, 0, rests=1, taken=1, wave=2, all_taken=1)) + done(0) + wave(0) + state(0)
)


class Answers(unittest.TestCase):
    def test_how_an_answer_stands_in_what_is_given_back(self):
        line = start(2, 0, 2, [7]) + give(2, 1, 3) + take(2) + take(2) + say(2, 1) + say(2, 0) + finish(2)
        self.assertEqual(
            answers(line), [1, 0, 1, -11, 2, 0, 7, 1, -16, 41, 0] + message(0, 1) + [1, -22, 1, 0],
        )

    def test_how_the_answers_of_the_later_calls_stand_there(self):
        hears = heard(1, message(0, 1, errand=(0, 3), wave=1))
        line = start(1, 1, 2) + hears + hears + heard(1, [0] * 40) + state(1) + wave(1) + done(1)
        self.assertEqual(answers(line), [1, 0, 1, 1, 1, 0, 1, -71, 5, 0, 1, 0, 0, 1, 1, -22, 1, -22])
        self.assertEqual(answers(start(2, 0, 2) + wave(2) + done(2) + state(2)), [1, 0, 1, 0, 1, 0, 5, 0, 0, 0, 0, 1])

    def test_a_message_like_calls_is_not_taken_for_calls(self):
        answered = ask(start(0, 1, 2), heard(0, [1, 0, 7, 0] * 10), state(0), heard(0, message(0, 1)), take(0))
        self.assertEqual(answered[1:], [[-71], [0, 0, 0, 0, 0], [0], [-11]])

    def test_tasks_like_calls_are_not_taken_for_calls(self):
        answered = ask(start(0, 0, 2, [0, 1, 2, 3, 4]), start(1, 1, 2, []), take(1), take(0))
        self.assertEqual(answered, [[0], [0], [-11], [0, 0]])

    def test_tasks_of_a_refused_start_are_passed_over(self):
        answered = ask(start(0, 0, 2, [8]), start(0, 0, 2, [3] * 100), take(0))
        self.assertEqual(answered, [[0], [-22], [0, 8]])

    def test_all_are_whole_numbers(self):
        quiet = start(0, 0, 2) + wave(0)
        for number in (1, 2):
            quiet += heard(0, message(1, 0, rests=1, wave=number)) + wave(0) + done(0)
        self.assertEqual(answers(quiet)[-2:], [1, 1])
        for line in (LINE, quiet):
            answered = answers(line)
            self.assertIs(type(answered), list)
            self.assertEqual({type(number) for number in answered}, {int})

    def test_what_is_handed_in_is_as_it_was(self):
        line = list(LINE)
        answers(line)
        self.assertEqual(line, LINE)

    def test_the_same_list_twice_answers_the_same(self):
        first = answers(LINE)
        answers(start(0, 1, 2, [1]) + take(0) + give(0, 0, 3))
        self.assertEqual(answers(LINE), first)

    def test_changing_what_was_given_back_changes_no_later_answer(self):
        first = answers(LINE)
        kept = list(first)
        first.clear()
        self.assertEqual(answers(LINE), kept)

    def test_5000_calls(self):
        line = start(0, 0, 16, [1]) + take(0) + give(0, 15, 6) + say(0, 15) * 4997
        parts = split(answers(line))
        self.assertEqual(parts[3:], [[0] + message(0, 15, errand=(0, 6))] * 4997)


class Objects(unittest.TestCase):
    def test_the_four_know_nothing_of_each_other(self):
        alone = []
        for thing in range(4):
            alone.append([
                start(thing, thing % 3, 3, [10 + thing, 20 + thing]), take(thing), give(thing, (thing + 1) % 3, thing),
                give(thing, thing % 3, 30 + thing), say(thing, (thing + 1) % 3), say(thing, (thing + 2) % 3),
                finish(thing), take(thing), finish(thing), take(thing), finish(thing), take(thing),
            ])
        together = ask(*[call for row in zip(*alone) for call in row])
        for thing in range(4):
            self.assertEqual(together[thing::4], ask(*alone[thing]))
            self.assertEqual(together[thing::4][9], [0, 30 + thing])

    def test_two_that_are_the_same_machine(self):
        answered = ask(
            start(1, 0, 2, [5]), start(2, 0, 2, [5]), take(1), give(1, 1, 6), say(1, 1), say(2, 1), take(2), finish(1),
            take(2), take(1),
        )
        self.assertEqual(answered, [
            [0], [0], [0, 5], [0], [0] + message(0, 1, errand=(0, 6)), [0] + message(0, 1), [0, 5], [0], [-16], [-11],
        ])

    def test_a_start_again_leaves_the_others(self):
        answered = ask(start(0, 0, 2, [5]), start(1, 1, 2, [6]), take(0), start(1, 0, 2, []), take(0), take(1))
        self.assertEqual(answered[3:], [[0], [-16], [-11]])


if __name__ == "__main__":
    unittest.main()
