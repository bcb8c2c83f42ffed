"""The calls run, round, settle, stuck and grow (points 2 and 4)."""

import unittest

from lines import GROW, STUCK, ask, behind, get, jump, last, net, program, put, rounds, run, say, settle

HIGHEST = 4294967295
FULL = [net(1, (1, 1, 1)), program(1, put(0, 1), put(0, 1))]


class Run(unittest.TestCase):
    def test_n_steps_or_as_many_as_it_can(self):
        told = ask(program(1, say(0), say(0), say(0)), run(1, 0), run(1, 2), run(1, 0), run(1, 1), run(1, 1))
        self.assertEqual(told[1:], [[0, 0, 0], [2, 0, 0], [0, 0, 0], [1, 1, 0], [0, 1, 0]])

    def test_waits_for_the_channel_that_is_told(self):
        laid = [net(2, (1, 2, 1), (2, 1, 2), (1, 2, 3))]
        self.assertEqual(last(*laid, program(1, get(0, 2)), run(1, 9)), [0, 2, 2])
        self.assertEqual(last(*laid, program(1, put(0, 3), jump(1)), run(1, 9)), [6, 3, 3])

    def test_stands_as_it_does_behind_its_last_step(self):
        laid = [net(1, (1, 1, 1)), program(1, put(0, 1), put(0, 1))]
        self.assertEqual(last(*laid, run(1, 1)), [1, 3, 1])
        laid = [net(1, (1, 1, 1)), program(1, say(0), get(0, 1))]
        self.assertEqual(last(*laid, run(1, 1)), [1, 2, 1])
        self.assertEqual(last(program(1, say(0)), run(1, 1)), [1, 1, 0])

    def test_only_that_process_steps(self):
        told = ask(program(1, say(0)), program(2, say(0)), run(1, 9), run(2, 0))
        self.assertEqual(told[2:], [[1, 1, 0], [0, 0, 0]])

    def test_at_most_200(self):
        told = ask(program(1, jump(1)), run(1, 200), run(1, 201), run(1, HIGHEST))
        self.assertEqual(told[1:], [[200, 0, 0], [-2], [-2]])

    def test_there_must_be_such_a_process(self):
        self.assertEqual(ask(run(0, 1), run(1, 1), run(2, 1), run(3, 1)), [[-1], [0, 1, 0], [0, 1, 0], [-1]])
        self.assertEqual(ask(run(HIGHEST, 1)), [[-1]])

    def test_minus_1_comes_before_minus_2(self):
        self.assertEqual(ask(run(3, 201), run(0, 201), run(2, 201)), [[-1], [-1], [-2]])

    def test_a_refused_run_does_nothing(self):
        for refused, answer in ((run(1, 201), [-2]), (run(3, 1), [-1])):
            told = ask(program(1, say(0)), refused, program(2), run(1, 9))
            self.assertEqual(told, [[1], answer, [0], [1, 1, 0]])


class Round(unittest.TestCase):
    def test_each_process_does_n_steps_or_as_many_as_it_can(self):
        laid = [net(3), program(1, jump(1)), program(2, say(0), say(0)), program(3, jump(1))]
        self.assertEqual(ask(*laid, rounds(0), rounds(1), rounds(5), rounds(20))[4:], [[0], [3], [11], [40]])

    def test_in_the_order_of_the_processes(self):
        forth = [net(2, (1, 2, 1)), program(1, put(0, 1)), program(2, get(0, 1))]
        self.assertEqual(ask(*forth, rounds(1), STUCK)[3:], [[2], [1]])
        back = [net(2, (2, 1, 1)), program(2, put(0, 1)), program(1, get(0, 1))]
        self.assertEqual(ask(*back, rounds(1), STUCK, rounds(1), STUCK)[3:], [[1], [0], [1], [1]])

    def test_one_after_another_each_all_its_steps(self):
        laid = [
            net(2, (1, 2, 2), (2, 1, 2)),
            program(1, put(0, 1), put(0, 1), put(0, 1)), program(2, get(0, 1), get(0, 1), get(0, 1)),
        ]
        self.assertEqual(ask(*laid, rounds(20), rounds(20))[3:], [[4], [2]])

    def test_no_room_grows(self):
        self.assertEqual(ask(*FULL, rounds(20), rounds(20), STUCK)[2:], [[1], [0], [3]])

    def test_at_most_20(self):
        told = ask(program(1, jump(1)), rounds(20), rounds(21), rounds(HIGHEST))
        self.assertEqual(told[1:], [[20], [-2], [-2]])

    def test_a_refused_round_does_nothing(self):
        self.assertEqual(ask(program(1, say(0)), rounds(21), program(2), run(1, 0)), [[1], [-2], [0], [0, 0, 0]])


class Stuck(unittest.TestCase):
    def test_0_some_process_can_do_a_step(self):
        self.assertEqual(last(program(2, say(0)), STUCK), [0])
        self.assertEqual(last(net(3, (1, 1, 1)), program(1, get(0, 1)), program(3, say(0)), STUCK), [0])
        self.assertEqual(last(program(1, put(0, 1), put(0, 1)), program(2, say(0)), run(1, 9), STUCK), [0])

    def test_1_all_are_at_their_end(self):
        self.assertEqual(last(STUCK), [1])
        self.assertEqual(last(program(1, say(0)), program(2, say(0)), rounds(1), STUCK), [1])
        self.assertEqual(last(program(1, put(0, 1)), run(1, 1), STUCK), [1])

    def test_2_none_can_and_none_waits_to_write(self):
        self.assertEqual(last(program(2, get(0, 1)), STUCK), [2])
        laid = [net(2, (1, 2, 1), (2, 1, 1)), program(1, get(0, 2)), program(2, get(0, 1))]
        self.assertEqual(last(*laid, STUCK), [2])

    def test_3_none_can_and_some_process_waits_to_write(self):
        self.assertEqual(last(program(1, put(0, 1), put(0, 1)), run(1, 9), STUCK), [3])
        mixed = [net(3, (1, 2, 1), (2, 2, 1)), program(1, put(0, 1), put(0, 1)), program(2, get(0, 2)), run(1, 9)]
        self.assertEqual(last(*mixed, STUCK), [3])
        ended = [
            net(2, (1, 2, 1), (2, 1, 1)), program(1, put(0, 1), put(0, 1)), program(2, get(0, 1), put(0, 2), put(0, 2)),
        ]
        self.assertEqual(ask(*ended, rounds(9), STUCK, rounds(9), STUCK)[3:], [[3], [0], [1], [3]])

    def test_it_does_nothing(self):
        self.assertEqual(ask(program(1, say(0)), STUCK, STUCK, program(2), run(1, 9))[1:], [[0], [0], [0], [1, 1, 0]])


class Grow(unittest.TestCase):
    def waiting(self, *rooms):
        """As many processes as rooms, each of which has filled its channel and waits."""
        n = len(rooms)
        laid = [net(n, *[(p, p, room) for p, room in enumerate(rooms, 1)])]
        laid += [program(p, put(0, p), jump(1)) for p in range(1, n + 1)]
        return laid + [rounds(20)] * 6

    def test_which_channel_and_its_room(self):
        self.assertEqual(behind(FULL + [run(1, 9)], GROW, STUCK, run(1, 9), STUCK), [[1, 2], [0], [1, 1, 0], [1]])

    def test_the_least_room(self):
        self.assertEqual(behind(self.waiting(5, 3, 4), STUCK, GROW), [[3], [2, 4]])
        self.assertEqual(behind(self.waiting(5, 4, 3), GROW), [[3, 4]])
        self.assertEqual(behind(self.waiting(2, 4, 3), GROW), [[1, 3]])

    def test_of_several_the_first(self):
        self.assertEqual(behind(self.waiting(3, 2, 2), GROW), [[2, 3]])
        self.assertEqual(behind(self.waiting(2, 2, 2), GROW), [[1, 3]])

    def test_the_first_channel_not_the_first_process(self):
        laid = [
            net(2, (2, 2, 1), (1, 1, 1)), program(1, put(0, 2), jump(1)), program(2, put(0, 1), jump(1)), rounds(9),
        ]
        self.assertEqual(behind(laid, GROW), [[1, 2]])

    def test_only_channels_that_are_waited_for_to_write(self):
        laid = [
            net(3, (3, 1, 1), (1, 2, 1), (2, 3, 2)),
            program(1, put(0, 2)), program(2, put(0, 3), jump(1)), program(3, get(0, 3), get(0, 3)),
            run(1, 9), run(2, 9), run(3, 9), run(2, 9),
        ]
        self.assertEqual(behind(laid, STUCK, GROW, GROW), [[3], [3, 3], [-5]])

    def test_a_channel_that_is_waited_for_to_read_does_not_grow(self):
        laid = [
            net(2, (2, 1, 1), (1, 2, 1), (2, 1, 3)),
            program(1, get(0, 1)), program(2, put(0, 3), jump(1)), run(1, 9), run(2, 9),
        ]
        self.assertEqual(behind(laid, STUCK, GROW), [[3], [3, 4]])

    def test_again_and_again(self):
        again = [GROW, rounds(20)] * 3
        told = behind(self.waiting(1, 2), *again)
        self.assertEqual(told[::2], [[1, 2], [1, 3], [2, 3]])

    def test_above_50_too(self):
        laid = [net(1, (1, 1, 50)), program(1, put(0, 1), jump(1)), run(1, 200)]
        self.assertEqual(behind(laid, GROW, run(1, 9), GROW), [[1, 51], [2, 3, 1], [1, 52]])

    def test_refused_unless_they_stand_at_3(self):
        self.assertEqual(last(GROW), [-5])
        self.assertEqual(last(program(1, say(0)), GROW), [-5])
        self.assertEqual(last(program(2, get(0, 1)), GROW), [-5])
        self.assertEqual(last(program(1, put(0, 1), put(0, 1)), program(2, say(0)), run(1, 9), GROW), [-5])

    def test_a_refused_grow_changes_nothing(self):
        laid = [program(1, put(0, 1), put(0, 1)), program(2, say(0)), run(1, 9), GROW]
        self.assertEqual(behind(laid, run(1, 9), run(2, 9), GROW, run(1, 9)),
                         [[0, 3, 1], [1, 1, 0], [1, 2], [1, 1, 0]])

    def test_growing_is_no_step(self):
        self.assertEqual(behind(FULL + [run(1, 9)], GROW, settle(9)), [[1, 2], [1, 0, 1]])


class Settle(unittest.TestCase):
    def test_so_many_times_one_step_of_each(self):
        laid = [net(3), program(1, jump(1)), program(2, say(0), say(0)), program(3, jump(1))]
        told = ask(*laid, settle(0), settle(1), settle(1), settle(1), settle(10))
        self.assertEqual(told[4:], [[0, 0, 0], [3, 0, 0], [3, 0, 0], [2, 0, 0], [20, 0, 0]])

    def test_in_the_order_of_the_processes(self):
        forth = [net(2, (1, 2, 1)), program(1, put(0, 1)), program(2, get(0, 1))]
        self.assertEqual(last(*forth, settle(1)), [2, 0, 1])
        back = [net(2, (2, 1, 1)), program(2, put(0, 1)), program(1, get(0, 1))]
        self.assertEqual(ask(*back, settle(1), settle(1))[3:], [[1, 0, 0], [1, 0, 1]])

    def test_a_room_grows_one_time_for_each_turn(self):
        laid = [net(1, (1, 1, 1)), program(1, put(0, 1), put(0, 1), put(0, 1))]
        told = ask(*laid, *[settle(1)] * 6)
        self.assertEqual(told[2:], [[1, 0, 3], [0, 1, 0], [1, 0, 3], [0, 1, 0], [1, 0, 1], [0, 0, 1]])
        self.assertEqual(last(*laid, settle(5)), [3, 2, 1])
        self.assertEqual(last(*laid, settle(4)), [2, 2, 0])
        self.assertEqual(last(*laid, settle(3)), [2, 1, 3])

    def test_the_least_room_grows_within_settle(self):
        laid = [
            net(2, (1, 1, 3), (2, 2, 2)), program(1, put(0, 1), jump(1)), program(2, put(0, 2), jump(1)),
            rounds(20), settle(1), run(2, 9),
        ]
        self.assertEqual(ask(*laid, GROW)[3:], [[10], [0, 1, 0], [2, 3, 2], [1, 4]])

    def test_only_this_settle_is_counted(self):
        laid = [net(1, (1, 1, 1)), program(1, put(0, 1), put(0, 1), put(0, 1))]
        self.assertEqual(ask(*laid, run(1, 9), GROW, settle(9))[2:], [[1, 3, 1], [1, 2], [2, 1, 1]])

    def test_a_standstill_of_the_rooms_alone_is_cured(self):
        # 1 writes three on channel 1 and then one on 2, which 2 wants first.
        laid = [
            net(2, (1, 2, 1), (1, 2, 1)),
            program(1, put(0, 1), put(0, 1), put(0, 1), put(0, 2)),
            program(2, get(0, 2), get(0, 1), get(0, 1), get(0, 1)),
        ]
        self.assertEqual(ask(*laid, rounds(20), STUCK, settle(200), STUCK)[3:], [[1], [3], [7, 2, 1], [1]])

    def test_no_room_grows_where_all_wait_to_read(self):
        laid = [net(2, (1, 2, 1), (2, 1, 1)), program(1, get(0, 2)), program(2, say(0), get(0, 1))]
        self.assertEqual(ask(*laid, settle(200), settle(200))[3:], [[1, 0, 2], [0, 0, 2]])

    def test_no_room_grows_while_some_process_can_do_a_step(self):
        laid = [net(2, (1, 1, 1)), program(1, put(0, 1), put(0, 1)), program(2, jump(1))]
        self.assertEqual(last(*laid, settle(100)), [101, 0, 0])

    def test_nothing_is_done_at_the_end(self):
        self.assertEqual(ask(settle(200), program(1, say(0)), settle(200)), [[0, 0, 1], [1], [1, 0, 1]])

    def test_at_most_200(self):
        told = ask(program(1, jump(1)), settle(200), settle(201), settle(HIGHEST))
        self.assertEqual(told[1:], [[200, 0, 0], [-2], [-2]])

    def test_a_refused_settle_does_nothing(self):
        self.assertEqual(ask(program(1, say(0)), settle(201), program(2), run(1, 0)), [[1], [-2], [0], [0, 0, 0]])


if __name__ == "__main__":
    unittest.main()
