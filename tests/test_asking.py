"""The calls widen, process, said, channel, wrote and counts (points 2 and 4)."""

import unittest

from lines import (
    COUNTS, GROW, STUCK, all_there_is, ask, assign, behind, channel, copy, get, if_less, if_zero, jump, last, minus,
    net, net_row, plus, process, program, program_row, put, rounds, run, said, say, settle, times, widen, wrote,
)

HIGHEST = 4294967295
ENDLESS_PUTS = program(1, put(0, 1), jump(1))


def writes(*numbers):
    """The instructions that write these numbers on channel 1."""
    return [instruction for number in numbers for instruction in (assign(0, number), put(0, 1))]


class Widen(unittest.TestCase):
    def test_the_room_is_this_now(self):
        told = ask(channel(1), widen(1, 7), channel(1), widen(1, 9), channel(1))
        self.assertEqual(told, [[1, 0], [7], [7, 0], [9], [9, 0]])

    def test_not_less_than_the_room_that_the_channel_has(self):
        laid = [net(1, (1, 1, 5))]
        told = behind(laid, widen(1, 5), widen(1, 4), widen(1, 0), widen(1, 6), widen(1, 5), channel(1))
        self.assertEqual(told, [[5], [-2], [-2], [6], [-2], [6, 0]])

    def test_not_above_1000(self):
        told = ask(widen(1, 1001), widen(1, HIGHEST), widen(1, 999), widen(1, 1000), widen(1, 1001), widen(1, 1000))
        self.assertEqual(told, [[-2], [-2], [999], [1000], [-2], [1000]])

    def test_not_less_than_a_room_that_has_grown(self):
        laid = [ENDLESS_PUTS, run(1, 9), GROW, run(1, 9), GROW]
        self.assertEqual(behind(laid, widen(1, 2), widen(1, 3), channel(1)), [[-2], [3], [3, 2, 0, 0]])

    def test_a_room_that_has_grown_above_1000_can_only_grow(self):
        laid = [net(1, (1, 1, 1)), ENDLESS_PUTS, widen(1, 1000)] + [run(1, 200)] * 10
        told = behind(laid, run(1, 1), GROW, widen(1, 1000), widen(1, 1001), widen(1, 1002), run(1, 9), GROW)
        self.assertEqual(told, [[0, 3, 1], [1, 1001], [-2], [-2], [-2], [2, 3, 1], [1, 1002]])

    def test_who_waited_to_write_can_go_on(self):
        laid = [ENDLESS_PUTS, run(1, 9)]
        told = behind(laid, process(1), STUCK, widen(1, 1), process(1), STUCK, widen(1, 3), process(1), STUCK)
        self.assertEqual(told, [
            [3, 1, 1, 0, 0, 0, 0], [3], [1], [3, 1, 1, 0, 0, 0, 0], [3], [3], [0, 0, 1, 0, 0, 0, 0], [0],
        ])
        self.assertEqual(behind(laid, widen(1, 3), run(1, 9), channel(1)), [[3], [4, 3, 1], [3, 3, 0, 0, 0]])

    def test_just_so_many_numbers_fit(self):
        for room in (2, 51, 90):
            self.assertEqual(last(ENDLESS_PUTS, widen(1, room), run(1, 200)), [2 * room, 3, 1])

    def test_it_is_neither_a_growing_nor_a_step(self):
        laid = [ENDLESS_PUTS, run(1, 9), GROW, run(1, 9)]
        self.assertEqual(behind(laid, COUNTS, widen(1, 9), COUNTS), [[4, 1], [9], [4, 1]])
        self.assertEqual(ask(widen(1, 9), program(1, say(0)), COUNTS), [[9], [1], [0, 0]])

    def test_what_is_on_the_channel_stays(self):
        laid = [program(1, *writes(5, 6)), widen(1, 2), run(1, 9)]
        self.assertEqual(behind(laid, widen(1, 50), channel(1), wrote(1)), [[50], [50, 2, 5, 6], [2, 5, 6]])

    def test_only_that_channel(self):
        laid = [net(2, (1, 2, 3), (2, 1, 3), (1, 1, 3))]
        told = behind(laid, widen(2, 8), channel(1), channel(2), channel(3))
        self.assertEqual(told, [[8], [3, 0], [8, 0], [3, 0]])

    def test_to_grow_goes_by_the_room_that_is_now(self):
        laid = [net(2, (1, 1, 1), (2, 2, 2)), ENDLESS_PUTS, program(2, put(0, 2), jump(1)), widen(1, 5), rounds(20)]
        self.assertEqual(behind(laid, GROW), [[2, 3]])

    def test_there_must_be_such_a_channel(self):
        laid = [net(1, (1, 1, 1), (1, 1, 2), (1, 1, 3))]
        told = behind(laid, widen(0, 9), widen(1, 9), widen(3, 9), widen(4, 9), widen(HIGHEST, 9))
        self.assertEqual(told, [[-1], [9], [9], [-1], [-1]])
        self.assertEqual(last(net(2), widen(1, 9)), [-1])

    def test_minus_1_comes_before_minus_2(self):
        told = ask(widen(2, 1001), widen(0, 0), widen(HIGHEST, HIGHEST), widen(1, 1001), widen(1, 0))
        self.assertEqual(told, [[-1], [-1], [-1], [-2], [-2]])

    def test_a_net_has_the_rooms_that_it_tells(self):
        self.assertEqual(last(widen(1, 700), net(2, (1, 2, 4)), channel(1)), [4, 0])


class Process(unittest.TestCase):
    def test_0_it_can_do_a_step(self):
        self.assertEqual(last(program(1, say(0)), process(1)), [0, 0, 1, 0, 0, 0, 0])
        self.assertEqual(last(program(1, put(0, 1)), process(1)), [0, 0, 1, 0, 0, 0, 0])
        readable = [program(1, put(0, 1)), program(2, get(0, 1)), run(1, 1)]
        self.assertEqual(last(*readable, process(2)), [0, 0, 1, 0, 0, 0, 0])

    def test_1_at_its_end(self):
        self.assertEqual(ask(process(1), process(2)), [[1, 0, 1, 0, 0, 0, 0]] * 2)
        self.assertEqual(last(program(1, say(0), say(0)), run(1, 9), process(1)), [1, 0, 3, 0, 0, 0, 0])

    def test_2_it_waits_to_read(self):
        laid = [net(2, (1, 2, 1), (1, 2, 1), (2, 1, 1)), program(2, say(0), get(0, 2)), program(1, get(0, 3))]
        told = behind(laid, process(1), run(2, 9), process(2))
        self.assertEqual(told, [[2, 3, 1, 0, 0, 0, 0], [1, 2, 2], [2, 2, 2, 0, 0, 0, 0]])

    def test_3_it_waits_to_write(self):
        laid = [net(2, (2, 1, 1), (1, 2, 2), (1, 2, 1)), program(1, put(0, 2), put(0, 2), put(0, 2)), run(1, 9)]
        self.assertEqual(last(*laid, process(1)), [3, 2, 3, 0, 0, 0, 0])

    def test_how_it_stands_hangs_on_the_others(self):
        laid = [program(1, put(0, 1), put(0, 1)), program(2, get(0, 1))]
        told = behind(laid, process(2), run(1, 9), process(2), process(1), run(2, 1), process(1))
        self.assertEqual([answer[:3] for answer in told], [
            [2, 1, 1], [1, 3, 1], [0, 0, 1], [3, 1, 2], [1, 1, 0], [0, 0, 2],
        ])

    def test_the_next_instruction_behind_each_step(self):
        laid = [program(1, say(0), jump(4), say(0), if_zero(0, 2), say(0))]
        places = [answer[2] for answer in behind(laid, *[process(1), run(1, 1)] * 6)[::2]]
        self.assertEqual(places, [1, 2, 4, 2, 4, 2])

    def test_the_next_instruction_behind_jumps_that_are_taken_or_not(self):
        def place(*doings):
            return last(program(1, *doings, say(0), say(0), say(0)), run(1, len(doings)), process(1))[2]

        self.assertEqual(place(jump(3)), 3)
        self.assertEqual(place(jump(1)), 1)
        self.assertEqual(place(if_zero(0, 4)), 4)
        self.assertEqual(place(assign(0, 1), if_zero(0, 1)), 3)
        self.assertEqual(place(assign(0, 1), if_less(1, 0, 5)), 5)
        self.assertEqual(place(assign(0, 1), if_less(0, 1, 5)), 3)
        self.assertEqual(place(if_less(0, 1, 4)), 2)

    def test_one_behind_the_last_at_its_end(self):
        for length in (1, 2, 24):
            ends = [program(1, *[say(0)] * length), run(1, 200)]
            self.assertEqual(last(*ends, process(1)), [1, 0, length + 1, 0, 0, 0, 0])
            jumps = [program(1, jump(length + 1), *[say(0)] * (length - 1)), run(1, 200)]
            self.assertEqual(last(*jumps, process(1)), [1, 0, length + 1, 0, 0, 0, 0])

    def test_one_that_waits_is_at_the_same_instruction_still(self):
        laid = [program(1, say(0), put(0, 1), put(0, 1), say(0)), run(1, 9), run(1, 9), rounds(9)]
        self.assertEqual(last(*laid, process(1)), [3, 1, 3, 0, 0, 0, 0])

    def test_the_four_registers_in_their_order(self):
        doings = [assign(0, 11), assign(1, 22), assign(2, 33), assign(3, 65535)]
        self.assertEqual(last(program(1, *doings), run(1, 9), process(1)), [1, 0, 5, 11, 22, 33, 65535])

    def test_registers_behind_each_instruction(self):
        def registers(*doings):
            laid = [net(1, (1, 1, 9)), program(1, assign(0, 7), assign(1, 9), *doings), run(1, 200)]
            return last(*laid, process(1))[3:]

        self.assertEqual(registers(), [7, 9, 0, 0])
        self.assertEqual(registers(copy(2, 1)), [7, 9, 9, 0])
        self.assertEqual(registers(plus(0, 1)), [16, 9, 0, 0])
        self.assertEqual(registers(minus(0, 1)), [65534, 9, 0, 0])
        self.assertEqual(registers(minus(1, 0)), [7, 2, 0, 0])
        self.assertEqual(registers(times(1, 0)), [7, 63, 0, 0])
        self.assertEqual(registers(put(1, 1), get(3, 1)), [7, 9, 0, 9])
        self.assertEqual(registers(say(0), jump(4), if_zero(0, 1), if_less(1, 0, 1)), [7, 9, 0, 0])

    def test_a_program_sets_the_registers_and_the_place_anew(self):
        self.assertEqual(last(program(1, say(0), say(0)), program(1), process(1)), [1, 0, 1, 0, 0, 0, 0])
        anew = [program(1, assign(0, 5)), run(1, 1), net(2), process(1), program(1, say(0)), process(1)]
        self.assertEqual(ask(*anew)[3:], [[1, 0, 1, 0, 0, 0, 0], [1], [0, 0, 1, 0, 0, 0, 0]])

    def test_only_that_process(self):
        laid = [program(1, assign(0, 5), say(0)), program(2, assign(1, 6)), rounds(1)]
        self.assertEqual(behind(laid, process(1), process(2)), [[0, 0, 2, 5, 0, 0, 0], [1, 0, 2, 0, 6, 0, 0]])

    def test_there_must_be_such_a_process(self):
        told = behind([net(3)], process(0), process(1), process(3), process(4), process(HIGHEST))
        self.assertEqual(told, [[-1], [1, 0, 1, 0, 0, 0, 0], [1, 0, 1, 0, 0, 0, 0], [-1], [-1]])


class Said(unittest.TestCase):
    def test_none_one_and_several(self):
        laid = [program(1, assign(1, 5), say(1), say(0), assign(1, 65535), say(1), say(1))]
        told = behind(laid, said(1), run(1, 1), said(1), run(1, 1), said(1), run(1, 9), said(1))
        self.assertEqual(told[::2], [[0], [0], [1, 5], [4, 5, 0, 65535, 65535]])

    def test_each_process_says_its_own(self):
        laid = [net(3), program(1, assign(0, 1), say(0)), program(3, assign(0, 3), say(0), say(0)), rounds(20)]
        self.assertEqual(behind(laid, said(1), said(2), said(3)), [[1, 1], [0], [2, 3, 3]])

    def test_behind_a_run_a_round_and_a_settle(self):
        counting = [program(1, assign(1, 1), plus(0, 1), say(0), jump(2))]
        for going in (run(1, 10), rounds(10), settle(10)):
            self.assertEqual(behind(counting, going, said(1), COUNTS)[1:], [[3, 1, 2, 3], [10, 0]])

    def test_neither_get_nor_put_says(self):
        laid = [net(1, (1, 1, 3)), program(1, put(0, 1), get(1, 1)), run(1, 9)]
        self.assertEqual(last(*laid, said(1)), [0])

    def test_a_net_forgets_what_was_said(self):
        told = ask(program(1, say(0)), run(1, 1), said(1), net(2), said(1))
        self.assertEqual(told[2:], [[1, 0], [0], [0]])

    def test_there_must_be_such_a_process(self):
        told = behind([net(3)], said(0), said(1), said(3), said(4), said(HIGHEST))
        self.assertEqual(told, [[-1], [0], [0], [-1], [-1]])


class ChannelAndWrote(unittest.TestCase):
    def test_none_one_and_several(self):
        laid = [net(2, (1, 2, 3)), program(1, *writes(7, 0, 65535))]
        told = behind(laid, channel(1), wrote(1), run(1, 2), channel(1), wrote(1), run(1, 9), channel(1), wrote(1))
        self.assertEqual(told, [
            [3, 0], [0], [2, 0, 0], [3, 1, 7], [1, 7], [4, 1, 0], [3, 3, 7, 0, 65535], [3, 7, 0, 65535],
        ])

    def test_what_was_read_is_only_among_what_was_written(self):
        laid = [net(2, (1, 2, 3)), program(1, *writes(4, 5, 6)), program(2, *[get(0, 1)] * 3), run(1, 9)]
        told = behind(laid, *[run(2, 1), process(2), channel(1), wrote(1)] * 3)
        self.assertEqual(told[2::4], [[3, 2, 5, 6], [3, 1, 6], [3, 0]])
        self.assertEqual(told[3::4], [[3, 4, 5, 6]] * 3)
        self.assertEqual([answer[3] for answer in told[1::4]], [4, 5, 6])

    def test_more_are_written_than_there_is_room(self):
        laid = [program(1, *writes(1, 2, 3, 4)), program(2, get(0, 1), jump(1)), rounds(20), rounds(20), rounds(20)]
        told = behind(laid, channel(1), wrote(1), run(1, 9), channel(1), wrote(1), run(2, 9), channel(1), wrote(1))
        self.assertEqual(told, [
            [1, 0], [3, 1, 2, 3], [1, 1, 0], [1, 1, 4], [4, 1, 2, 3, 4], [2, 2, 1], [1, 0], [4, 1, 2, 3, 4],
        ])

    def test_what_waits_to_be_written_is_not_there_yet(self):
        laid = [program(1, *writes(8, 9)), run(1, 9), rounds(9)]
        told = behind(laid, channel(1), wrote(1), settle(1), channel(1), wrote(1), settle(1), channel(1), wrote(1))
        self.assertEqual(told, [
            [1, 1, 8], [1, 8], [0, 1, 0], [2, 1, 8], [1, 8], [1, 0, 1], [2, 2, 8, 9], [2, 8, 9],
        ])

    def test_what_was_written_stays_as_it_was_then(self):
        laid = [net(1, (1, 1, 2)), program(1, assign(0, 3), put(0, 1), plus(0, 0)), run(1, 9)]
        self.assertEqual(behind(laid, process(1), channel(1), wrote(1)), [[1, 0, 4, 6, 0, 0, 0], [2, 1, 3], [1, 3]])

    def test_behind_a_run_a_round_and_a_settle(self):
        counting = [net(1, (1, 1, 9)), program(1, assign(1, 1), plus(0, 1), put(0, 1), jump(2))]
        for going in (run(1, 10), rounds(10), settle(10)):
            told = behind(counting, going, channel(1), wrote(1))
            self.assertEqual(told[1:], [[9, 3, 1, 2, 3], [3, 1, 2, 3]])

    def test_each_channel_has_its_own(self):
        laid = [
            net(2, (1, 2, 2), (2, 1, 3), (1, 1, 4)), program(1, assign(0, 5), put(0, 1), put(0, 3)),
            program(2, assign(0, 6), put(0, 2), put(0, 2)), rounds(20),
        ]
        self.assertEqual(behind(laid, channel(1), channel(2), channel(3), wrote(1), wrote(2), wrote(3)), [
            [2, 1, 5], [3, 2, 6, 6], [4, 1, 5], [1, 5], [2, 6, 6], [1, 5],
        ])

    def test_a_net_empties_all(self):
        told = ask(program(1, *writes(5)), run(1, 9), channel(1), wrote(1), net(2, (1, 2, 1)), channel(1), wrote(1))
        self.assertEqual(told[2:], [[1, 1, 5], [1, 5], [1], [1, 0], [0]])

    def test_there_must_be_such_a_channel(self):
        laid = [net(1, (1, 1, 2), (1, 1, 3), (1, 1, 4))]
        told = behind(laid, channel(0), channel(1), channel(3), channel(4), channel(HIGHEST))
        self.assertEqual(told, [[-1], [2, 0], [4, 0], [-1], [-1]])
        told = behind(laid, wrote(0), wrote(1), wrote(3), wrote(4), wrote(HIGHEST))
        self.assertEqual(told, [[-1], [0], [0], [-1], [-1]])
        self.assertEqual(behind([net(2)], channel(1), wrote(1)), [[-1], [-1]])


class Counts(unittest.TestCase):
    def test_both_are_0_at_first(self):
        self.assertEqual(ask(COUNTS), [[0, 0]])

    def test_steps_by_run_round_and_settle_together(self):
        laid = [program(1, jump(1)), program(2, jump(1))]
        told = behind(laid, run(1, 5), COUNTS, rounds(3), COUNTS, settle(4), COUNTS, run(2, 0), COUNTS)
        self.assertEqual(told[1::2], [[5, 0], [11, 0], [19, 0], [19, 0]])

    def test_one_that_waits_does_no_step(self):
        laid = [program(1, put(0, 1), put(0, 1)), run(1, 200), run(1, 200), rounds(20)]
        self.assertEqual(last(*laid, COUNTS), [1, 0])

    def test_growings_by_grow_and_by_settle_together(self):
        laid = [ENDLESS_PUTS, run(1, 9)]
        told = behind(laid, GROW, COUNTS, run(1, 9), GROW, COUNTS, settle(5), COUNTS, settle(2), COUNTS)
        self.assertEqual(told, [
            [1, 2], [2, 1], [2, 3, 1], [1, 3], [4, 2], [4, 1, 3], [8, 3], [1, 1, 0], [9, 4],
        ])

    def test_a_refused_grow_is_none(self):
        self.assertEqual(ask(GROW, COUNTS), [[-5], [0, 0]])

    def test_a_net_begins_all_anew(self):
        laid = [net(2, (1, 2, 1)), program(1, say(0), assign(0, 4), put(0, 1), put(0, 1)), settle(9)]
        nothing = behind([net(2, (1, 2, 1))], *all_there_is(2, 1))
        self.assertEqual(behind(laid, COUNTS, said(1), wrote(1)), [[4, 1], [1, 0], [2, 4, 4]])
        self.assertEqual(behind(laid + [net(2, (1, 2, 1))], *all_there_is(2, 1)), nothing)
        self.assertEqual(nothing, [
            [1], [0, 0], [1, 0, 1, 0, 0, 0, 0], [0], [1, 0, 1, 0, 0, 0, 0], [0], [1, 0], [0],
        ])
        self.assertEqual(ask(*all_there_is(2, 1)), nothing)


class AllIsAsItWas(unittest.TestCase):
    """Behind a refusal, and behind a call that only asks."""

    LAID = [
        net(2, (1, 2, 2), (2, 2, 3)),
        program(1, assign(0, 9), say(0), *[put(0, 1)] * 5),
        program(2, get(1, 1), put(1, 2), get(2, 1), say(2), jump(2)),
        settle(8), run(1, 20),
    ]

    def check(self, laid, call, answer):
        told = behind(laid, *all_there_is(2, 2), call, *all_there_is(2, 2), settle(7), *all_there_is(2, 2))
        length = len(all_there_is(2, 2))
        self.assertEqual(told[length], answer, call)
        self.assertEqual(told[:length], told[length + 1:2 * length + 1], call)
        untouched = behind(laid, settle(7), *all_there_is(2, 2))
        self.assertEqual(told[2 * length + 1:], untouched, call)

    def test_behind_each_refusal(self):
        refused = [
            (net(0), -1), (net(7), -1), (net(2, (1, 2, 51)), -2), (net(2, (1, 3, 1)), -2), (net_row(2, [1, 2]), -2),
            (program(3), -1), (program(1), -7), (program_row(1, [0]), -7), (run(3, 1), -1), (run(0, 1), -1),
            (run(1, 201), -2), (rounds(21), -2), (settle(201), -2), (GROW, -5), (widen(0, 9), -1), (widen(3, 9), -1),
            (widen(3, 1001), -1), (widen(1, 1), -2), (widen(2, 2), -2), (widen(1, 1001), -2),
        ]
        refused += [(asks(number), -1) for asks in (process, said, channel, wrote) for number in (0, 3, HIGHEST)]
        for call, answer in refused:
            self.check(self.LAID, call, [answer])

    def test_behind_a_refused_program_ahead_of_all_steps(self):
        laid = [call for call in self.LAID if call[0] in (0, 1)]
        for call in (program(1, say(4)), program_row(2, [0]), program(1, *[say(0)] * 25)):
            self.check(laid, call, [-3])

    def test_behind_a_call_that_only_asks(self):
        for call in all_there_is(2, 2):
            self.check(self.LAID, call, last(*self.LAID, call))


if __name__ == "__main__":
    unittest.main()
