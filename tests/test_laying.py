"""The net at a line's beginning, and the calls net and program (points 1, 2 and 3)."""

import unittest

from lines import (
    GROW, STUCK, ask, assign, copy, get, if_less, if_zero, jump, last, minus, net, net_row, plus,
    program, program_row, put, rounds, run, say, settle, times,
)

HIGHEST = 4294967295


class Beginning(unittest.TestCase):
    def test_two_processes_at_their_end(self):
        self.assertEqual(
            ask(run(1, 5), run(2, 5), run(3, 5), run(0, 5), STUCK),
            [[0, 1, 0], [0, 1, 0], [-1], [-1], [1]],
        )

    def test_channel_1_goes_from_1_to_2(self):
        self.assertEqual(
            ask(program(1, put(0, 1)), program(2, get(0, 1)), program(2, put(0, 1)), program(1, get(0, 1))),
            [[1], [1], [-3], [-3]],
        )

    def test_there_is_no_other_channel(self):
        self.assertEqual(
            ask(program(1, put(0, 2)), program(1, put(0, 0)), program(2, get(0, 2))), [[-3], [-3], [-3]]
        )

    def test_channel_1_has_room_1_and_is_empty(self):
        self.assertEqual(
            ask(program(1, put(0, 1), put(0, 1)), program(2, get(0, 1)), run(2, 1), run(1, 2), GROW),
            [[2], [1], [0, 2, 1], [1, 3, 1], [-5]],
        )
        self.assertEqual(last(program(1, put(0, 1), put(0, 1)), run(1, 2), GROW), [1, 2])

    def test_nothing_can_be_done_yet(self):
        self.assertEqual(ask(rounds(20), settle(200), GROW, STUCK), [[0], [0, 0, 1], [-5], [1]])


class NetCall(unittest.TestCase):
    def test_answers_how_many_channels(self):
        self.assertEqual(ask(net(1)), [[0]])
        self.assertEqual(ask(net(3, (1, 2, 1), (2, 3, 4), (3, 1, 9))), [[3]])

    def test_how_many_processes(self):
        self.assertEqual(
            ask(net(0), net(1), net(6), net(7), net(HIGHEST)), [[-1], [0], [0], [-1], [-1]]
        )
        self.assertEqual(ask(net(6), run(6, 1), run(7, 1)), [[0], [0, 1, 0], [-1]])
        self.assertEqual(ask(net(1), run(1, 1), run(2, 1)), [[0], [0, 1, 0], [-1]])

    def test_three_numbers_for_each_channel(self):
        for length, answer in ((1, [-2]), (2, [-2]), (3, [1]), (4, [-2]), (5, [-2]), (6, [2])):
            self.assertEqual(ask(net_row(1, [1] * length)), [answer], length)

    def test_at_most_ten_channels(self):
        self.assertEqual(ask(net(2, *[(1, 2, 1)] * 10), program(1, put(0, 10))), [[10], [1]])
        self.assertEqual(ask(net(2, *[(1, 2, 1)] * 11), net_row(2, [1] * 36)), [[-2], [-2]])
        self.assertEqual(ask(net_row(2, [1] * 31), net_row(2, [1] * 29)), [[-2], [-2]])

    def test_ends_are_processes(self):
        told = ask(
            net(3, (1, 3, 1)), net(3, (3, 1, 1)), net(3, (0, 1, 1)), net(3, (1, 0, 1)), net(3, (4, 1, 1)),
            net(3, (1, 4, 1)), net(3, (HIGHEST, 1, 1)),
        )
        self.assertEqual(told, [[1], [1], [-2], [-2], [-2], [-2], [-2]])

    def test_rooms(self):
        told = ask(net(1, (1, 1, 0)), net(1, (1, 1, 1)), net(1, (1, 1, 50)), net(1, (1, 1, 51)))
        self.assertEqual(told, [[-2], [1], [1], [-2]])

    def test_each_channel_is_looked_at(self):
        self.assertEqual(
            ask(net(2, (1, 2, 1), (2, 1, 51)), net(2, (1, 2, 1), (2, 3, 1), (1, 1, 1))), [[-2], [-2]]
        )

    def test_a_room_is_as_large_as_told(self):
        loop = program(1, put(0, 1), jump(1))
        self.assertEqual(last(net(1, (1, 1, 50)), loop, run(1, 200)), [100, 3, 1])
        self.assertEqual(last(net(1, (1, 1, 3)), loop, run(1, 200)), [6, 3, 1])

    def test_channels_are_in_their_order(self):
        told = ask(
            net(3, (1, 2, 5), (2, 3, 7)),
            program(1, put(0, 1)), program(2, get(0, 1)), program(2, put(0, 2)), program(3, get(0, 2)),
            program(1, put(0, 2)), program(3, get(0, 1)),
        )
        self.assertEqual(told, [[2], [1], [1], [1], [1], [-3], [-3]])

    def test_a_net_leaves_nothing_of_the_one_before(self):
        before = [program(1, put(0, 1), put(0, 1)), run(1, 2), GROW, run(1, 1)]
        after = [
            net(2, (1, 2, 1)), STUCK, run(1, 1), program(2, get(0, 1)), program(1, put(0, 1), put(0, 1)),
            run(2, 1), run(1, 2), STUCK, run(2, 1), run(1, 1),
        ]
        told = ask(*(before + after))[len(before):]
        expected = [
            [1], [1], [0, 1, 0], [1], [2],
            [0, 2, 1], [1, 3, 1], [0], [1, 1, 0], [1, 1, 0],
        ]
        self.assertEqual(told, expected)

    def test_a_net_sets_the_registers_to_0(self):
        told = ask(program(1, assign(0, 5)), run(1, 1), net(1), program(1, if_zero(0, 3), jump(2)), run(1, 2))
        self.assertEqual(told[-1], [1, 1, 0])

    def test_minus_1_comes_before_minus_2(self):
        self.assertEqual(ask(net(7, (1, 2, 0)), net_row(0, [1])), [[-1], [-1]])

    def test_a_refused_net_changes_nothing(self):
        laid = [net(1, (1, 1, 2)), program(1, put(0, 1), put(0, 1), put(0, 1)), run(1, 1)]
        for refused in (net(7), net(0), net(2, (1, 2, 51)), net_row(2, [1, 1])):
            told = ask(*laid, refused, program(1), run(2, 1), run(1, 9), GROW)
            self.assertEqual(told[4:], [[-7], [-1], [1, 3, 1], [1, 3]])


class ProgramCall(unittest.TestCase):
    def test_answers_how_many_instructions(self):
        self.assertEqual(ask(program(1), program(1, say(0)), program(1, say(0), jump(1))), [[0], [1], [2]])

    def test_there_must_be_such_a_process(self):
        told = ask(program(0), program(1), program(2), program(3), program(HIGHEST))
        self.assertEqual(told, [[-1], [0], [0], [-1], [-1]])

    def test_four_numbers_for_each_instruction(self):
        for length, answer in ((1, [-3]), (2, [-3]), (3, [-3]), (4, [1]), (5, [-3]), (6, [-3]), (7, [-3]), (8, [2])):
            row = (say(0) * 2)[:length]
            self.assertEqual(ask(program_row(1, row)), [answer], length)

    def test_at_most_24_instructions(self):
        self.assertEqual(ask(program(1, *[say(0)] * 24), run(1, 200)), [[24], [24, 1, 0]])
        self.assertEqual(ask(program(1, *[say(0)] * 25), program(1, *[say(0)] * 26)), [[-3], [-3]])
        self.assertEqual(ask(program_row(1, (say(0) * 25)[:97])), [[-3]])

    def test_each_instruction_is_looked_at(self):
        wrong = say(4)
        for at in range(3):
            row = [say(0), say(0), say(0)]
            row[at] = wrong
            self.assertEqual(ask(program(1, *row)), [[-3]], at)

    def test_instructions_by_the_table(self):
        self.assertEqual(ask(program(1, say(3)), program(1, [11, 0, 0, 0])), [[1], [-3]])
        self.assertEqual(ask(program(1, [HIGHEST, 0, 0, 0])), [[-3]])

    def check(self, instruction, granted):
        told = ask(net(2, (1, 2, 1), (2, 1, 1)), program(1, instruction, say(0)))
        self.assertEqual(told[1], [2] if granted else [-3], instruction)

    def test_registers_are_0_to_3(self):
        forms = [
            lambda x: get(x, 2), lambda x: put(x, 1), lambda x: assign(x, 1), lambda x: copy(x, 0),
            lambda x: copy(0, x), lambda x: plus(x, 0), lambda x: plus(0, x), lambda x: minus(x, 0),
            lambda x: minus(0, x), lambda x: times(x, 0), lambda x: times(0, x), lambda x: if_zero(x, 1),
            lambda x: if_less(x, 0, 1), lambda x: if_less(0, x, 1), say,
        ]
        for form in forms:
            for x in range(4):
                self.check(form(x), True)
            self.check(form(4), False)
            self.check(form(HIGHEST), False)

    def test_what_is_set_is_at_most_65535(self):
        self.check(assign(0, 0), True)
        self.check(assign(0, 65535), True)
        self.check(assign(0, 65536), False)
        self.check(assign(0, HIGHEST), False)

    def test_jumps_go_to_1_up_to_one_behind_the_last(self):
        for form in (jump, lambda i: if_zero(0, i), lambda i: if_less(0, 1, i)):
            for i in (1, 2, 3):
                self.check(form(i), True)
            for i in (0, 4, HIGHEST):
                self.check(form(i), False)

    def test_one_behind_the_last_of_programs_of_any_length(self):
        for length in range(1, 25):
            rest = [say(0)] * (length - 1)
            self.assertEqual(ask(program(1, *rest, jump(length + 1)), run(1, 200))[1], [length, 1, 0])
            self.assertEqual(ask(program(1, *rest, jump(length + 2))), [[-3]])

    def test_get_from_channels_that_are_read_put_on_those_that_are_written(self):
        self.check(get(0, 2), True)
        self.check(put(0, 1), True)
        for c in (0, 1, 3, HIGHEST):
            self.check(get(0, c), False)
        for c in (0, 2, 3, HIGHEST):
            self.check(put(0, c), False)

    def test_a_channel_to_itself_is_both(self):
        self.assertEqual(ask(net(1, (1, 1, 1)), program(1, put(0, 1), get(0, 1))), [[1], [2]])

    def test_what_the_table_tells_as_0_is_0(self):
        zeros = {0: [3], 1: [3], 2: [3], 3: [3], 4: [3], 5: [3], 6: [3], 7: [2, 3], 8: [3], 9: [], 10: [2, 3]}
        granted = [
            get(0, 2), put(0, 1), assign(0, 1), copy(0, 1), plus(0, 1), minus(0, 1), times(0, 1), jump(1),
            if_zero(0, 1), if_less(0, 1, 1), say(0),
        ]
        for instruction in granted:
            self.check(instruction, True)
            for at in zeros[instruction[0]]:
                wrong = list(instruction)
                wrong[at] = 1
                self.check(wrong, False)

    def test_no_program_once_a_step_was_done(self):
        told = ask(program(1, say(0)), run(1, 0), program(2, say(0)), run(1, 1), program(1), program(2))
        self.assertEqual(told, [[1], [0, 0, 0], [1], [1, 1, 0], [-7], [-7]])

    def test_steps_of_round_and_settle_count_too(self):
        for doing in (rounds(1), settle(1)):
            self.assertEqual(last(program(1, say(0)), doing, program(2)), [-7])
        for nothing in (rounds(0), settle(0), settle(200), rounds(20)):
            self.assertEqual(last(nothing, program(2)), [0])

    def test_a_new_net_takes_programs_again(self):
        self.assertEqual(ask(program(1, say(0)), run(1, 1), net(2), program(1, say(0)))[-1], [1])

    def test_minus_1_then_minus_7_then_minus_3(self):
        wrong = [11, 0, 0, 0]
        self.assertEqual(ask(program(3, wrong)), [[-1]])
        stepped = [program(1, say(0)), run(1, 1)]
        self.assertEqual(last(*stepped, program(3, wrong)), [-1])
        self.assertEqual(last(*stepped, program(1, wrong)), [-7])
        self.assertEqual(last(*stepped, program(3)), [-1])

    def test_a_second_program_is_there_in_the_place_of_the_first(self):
        told = ask(program(1, say(0), say(0), say(0)), program(1, say(0)), run(1, 9))
        self.assertEqual(told, [[3], [1], [1, 1, 0]])
        told = ask(program(1, say(0)), program(1), run(1, 9), STUCK)
        self.assertEqual(told, [[1], [0], [0, 1, 0], [1]])

    def test_a_program_leaves_the_other_processes_alone(self):
        told = ask(program(1, say(0), say(0)), program(2, say(0)), run(1, 9), run(2, 9))
        self.assertEqual(told[2:], [[2, 1, 0], [1, 1, 0]])

    def test_a_refused_program_changes_nothing(self):
        kept = program(1, say(0), put(0, 1), put(0, 1))
        for refused in (program(1, say(4)), program_row(1, [0]), program(1, *[say(0)] * 25), program(9)):
            self.assertEqual(last(kept, refused, run(1, 9)), [2, 3, 1])
        self.assertEqual(ask(kept, run(1, 1), program(1), run(1, 9))[2:], [[-7], [1, 3, 1]])


if __name__ == "__main__":
    unittest.main()
