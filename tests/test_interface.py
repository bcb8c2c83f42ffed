"""What is handed in and what is given back."""

import unittest

from fullrooms.net import answers
from lines import (
    COUNTS, GROW, STUCK, all_there_is, ask, assign, channel, get, jump, net, plus, process, program, put, rounds, run,
    said, say, settle, widen, wrote,
)

EVERY_CALL = (
    net(2, (1, 2, 1), (2, 1, 1))
    + program(1, put(0, 1), put(0, 1), get(1, 2))
    + program(2, assign(1, 7), say(1))
    + run(1, 5) + rounds(3) + STUCK + GROW + settle(9) + STUCK + GROW + net(0) + run(9, 1)
    + widen(2, 4) + process(1) + said(2) + said(1) + channel(1) + channel(2) + wrote(1) + wrote(2) + COUNTS
    + widen(1, 1) + process(0) + said(3) + channel(3) + wrote(0)
)


class Interface(unittest.TestCase):
    def test_each_answer_comes_behind_its_count(self):
        expected = [
            1, 2,
            1, 3,
            1, 2,
            3, 1, 3, 1,
            1, 2,
            1, 3,
            2, 1, 2,
            3, 1, 0, 2,
            1, 2,
            1, -5,
            1, -1,
            1, -1,
            1, 4,
            7, 2, 2, 3, 0, 0, 0, 0,
            2, 1, 7,
            1, 0,
            4, 2, 2, 0, 0,
            2, 4, 0,
            3, 2, 0, 0,
            1, 0,
            2, 4, 1,
            1, -2,
            1, -1,
            1, -1,
            1, -1,
            1, -1,
        ]
        self.assertEqual(answers(EVERY_CALL), expected)

    def test_answers_are_a_list_of_plain_whole_numbers(self):
        told = answers(EVERY_CALL)
        self.assertIs(type(told), list)
        self.assertEqual({type(number) for number in told}, {int})

    def test_what_is_handed_in_stays_as_it_was(self):
        calls = list(EVERY_CALL)
        answers(calls)
        self.assertEqual(calls, EVERY_CALL)

    def test_what_is_handed_in_is_not_changed_for_a_while_either(self):
        class Guarded(list):
            def refuse(self, *args):
                raise AssertionError("the list was changed")

            append = extend = insert = pop = remove = clear = sort = reverse = refuse
            __setitem__ = __delitem__ = __iadd__ = __imul__ = refuse

        self.assertEqual(answers(Guarded(EVERY_CALL)), answers(EVERY_CALL))

    def test_asking_twice_gives_the_same(self):
        self.assertEqual(answers(EVERY_CALL), answers(EVERY_CALL))

    def test_nothing_is_kept_for_the_next_line(self):
        answers(net(6) + program(6, jump(1)) + run(6, 200))
        self.assertEqual(ask(run(3, 1), program(1, put(0, 1)), STUCK), [[-1], [1], [0]])
        asked = [number for call in all_there_is(2, 1) for number in call]
        at_first = answers(asked)
        answers(EVERY_CALL)
        answers(program(1, say(0), put(0, 1), put(0, 1)) + settle(9) + widen(1, 9))
        self.assertEqual(answers(asked), at_first)

    def test_a_changed_answer_does_not_reach_the_next_one(self):
        first = answers(EVERY_CALL)
        kept = list(first)
        first.clear()
        self.assertEqual(answers(EVERY_CALL), kept)

    def test_rows_of_any_length_are_passed_over_when_refused(self):
        long_channels = [0, 2, 36] + [5] * 36
        long_program = [1, 1, 104] + [6] * 104
        self.assertEqual(ask(long_channels, long_program, STUCK), [[-2], [-3], [1]])

    def test_sixty_calls_with_the_longest_rows(self):
        fits = program(1, *[jump(25)] * 24)
        self.assertEqual(ask(*[fits] * 60), [[24]] * 60)

    def test_sixty_calls_of_many_steps(self):
        busy = net(6) + [number for p in range(1, 7) for number in program(p, jump(1))]
        told = ask(busy, *[settle(200)] * 53)
        self.assertEqual(told[7:], [[1200, 0, 0]] * 53)

    def test_sixty_calls_with_long_answers(self):
        counting = program(1, assign(1, 1), plus(0, 1), say(0), put(0, 1), jump(2)) + program(2, get(0, 1), jump(1))
        told = ask(counting, *[settle(200)] * 20, *[said(1), wrote(1)] * 18, channel(1), COUNTS)
        # The first of the 4000 turns is for the one; then each four are a number more, and the last three suffice.
        numbers = [1000] + list(range(1, 1001))
        self.assertEqual(told[22:-2], [numbers] * 36)
        self.assertEqual(told[-2:], [[1, 0], [4000 + 2 * 1000 - 1, 0]])


if __name__ == "__main__":
    unittest.main()
