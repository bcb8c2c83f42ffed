"""What each instruction does, seen through the steps that are done and how the process stands then."""

import unittest

from lines import (
    STUCK, ask, assign, copy, get, if_less, if_zero, jump, last, minus, net, plus, program, put, run, say, times,
)


class Registers(unittest.TestCase):
    def holds(self, doings, x, value):
        """Whether register x holds the value behind these instructions.

        The end is reached only if neither is less than the other; else a number is waited for on
        channel 2, where nothing is ever written."""
        spare = (x + 1) % 4
        at = len(doings)
        asked = doings + [
            assign(spare, value), if_less(x, spare, at + 5), if_less(spare, x, at + 5), jump(at + 6), get(spare, 2),
        ]
        told = last(net(1, (1, 1, 9), (1, 1, 1)), program(1, *asked), run(1, 200))
        self.assertIn(told[1], (1, 2))
        return told[1] == 1

    def check(self, doings, x, value):
        self.assertTrue(self.holds(doings, x, value), (doings, x, value))
        self.assertFalse(self.holds(doings, x, (value + 1) % 65536))
        self.assertFalse(self.holds(doings, x, (value - 1) % 65536))

    def test_registers_are_0_at_first(self):
        for x in range(4):
            self.check([], x, 0)

    def test_set(self):
        for x in range(4):
            self.check([assign(x, 7)], x, 7)
            self.check([assign((x + 1) % 4, 7)], x, 0)
        self.check([assign(0, 65535)], 0, 65535)
        self.check([assign(0, 65535), assign(0, 3)], 0, 3)

    def test_copy(self):
        self.check([assign(1, 9), assign(0, 4), copy(0, 1)], 0, 9)
        self.check([assign(1, 9), assign(0, 4), copy(0, 1)], 1, 9)
        self.check([assign(2, 9), copy(2, 2)], 2, 9)

    def test_plus(self):
        self.check([assign(0, 5), assign(1, 7), plus(0, 1)], 0, 12)
        self.check([assign(0, 5), assign(1, 7), plus(0, 1)], 1, 7)
        self.check([assign(0, 65535), assign(1, 1), plus(0, 1)], 0, 0)
        self.check([assign(0, 65535), assign(1, 65535), plus(0, 1)], 0, 65534)
        self.check([assign(0, 32768), plus(0, 0)], 0, 0)

    def test_minus(self):
        self.check([assign(0, 7), assign(1, 5), minus(0, 1)], 0, 2)
        self.check([assign(0, 7), assign(1, 5), minus(0, 1)], 1, 5)
        self.check([assign(0, 5), assign(1, 7), minus(0, 1)], 0, 65534)
        self.check([assign(1, 1), minus(0, 1)], 0, 65535)
        self.check([assign(0, 9), minus(0, 0)], 0, 0)

    def test_times(self):
        self.check([assign(0, 5), assign(1, 7), times(0, 1)], 0, 35)
        self.check([assign(0, 5), assign(1, 7), times(0, 1)], 1, 7)
        self.check([assign(0, 256), times(0, 0)], 0, 0)
        self.check([assign(0, 65535), times(0, 0)], 0, 1)
        self.check([assign(0, 300), assign(1, 300), times(0, 1)], 0, 90000 - 65536)

    def test_what_is_written_first_is_read_first(self):
        doings = [assign(0, 5), put(0, 1), assign(0, 6), put(0, 1), assign(0, 7), put(0, 1)]
        self.check(doings + [get(1, 1)], 1, 5)
        self.check(doings + [get(1, 1), get(1, 1)], 1, 6)
        self.check(doings + [get(1, 1), get(2, 1), get(3, 1)], 3, 7)

    def test_put_leaves_the_register(self):
        self.check([assign(2, 8), put(2, 1)], 2, 8)

    def test_say_leaves_the_register(self):
        self.check([assign(2, 8), say(2)], 2, 8)

    def test_numbers_go_through_a_channel_whole(self):
        told = ask(
            net(2, (1, 2, 1)),
            program(1, assign(3, 65535), put(3, 1)),
            program(2, get(2, 1), assign(0, 65534), if_less(0, 2, 5), jump(4)),
            run(1, 9), run(2, 50),
        )
        self.assertEqual(told[3:], [[2, 1, 0], [3, 1, 0]])


class ReadingAndWriting(unittest.TestCase):
    def test_get_waits_and_goes_on_when_there_is_a_number(self):
        told = ask(program(1, put(0, 1)), program(2, get(0, 1)), run(2, 9), run(2, 9), run(1, 9), run(2, 0), run(2, 9))
        self.assertEqual(told[2:], [[0, 2, 1], [0, 2, 1], [1, 1, 0], [0, 0, 0], [1, 1, 0]])

    def test_get_takes_the_number_away(self):
        told = ask(program(1, put(0, 1)), program(2, get(0, 1), get(0, 1)), run(1, 9), run(2, 9))
        self.assertEqual(told[3], [1, 2, 1])

    def test_put_waits_and_goes_on_when_there_is_room(self):
        told = ask(
            program(1, put(0, 1), put(0, 1)), program(2, get(0, 1)),
            run(1, 9), run(1, 9), run(2, 9), run(1, 0), run(1, 9),
        )
        self.assertEqual(told[2:], [[1, 3, 1], [0, 3, 1], [1, 1, 0], [0, 0, 0], [1, 1, 0]])

    def test_put_fills_the_room_to_the_last(self):
        for room in (1, 2, 5):
            told = last(net(1, (1, 1, room)), program(1, *[put(0, 1)] * 6), run(1, 9))
            self.assertEqual(told, [room, 3, 1])

    def test_each_channel_is_its_own(self):
        told = ask(
            net(2, (1, 2, 1), (1, 2, 1), (2, 1, 1)),
            program(1, put(0, 2), put(0, 1), put(0, 2)), program(2, get(0, 2), get(0, 1), get(0, 2)),
            run(1, 9), run(2, 2), run(1, 9), run(2, 9),
        )
        self.assertEqual(told[3:], [[2, 3, 2], [2, 2, 2], [1, 1, 0], [1, 1, 0]])

    def test_a_channel_to_itself(self):
        told = ask(net(1, (1, 1, 1)), program(1, put(0, 1), get(0, 1), get(0, 1)), run(1, 9), STUCK)
        self.assertEqual(told[2:], [[2, 2, 1], [2]])


class Jumps(unittest.TestCase):
    def test_jump(self):
        self.assertEqual(last(program(1, jump(3), jump(2), say(0)), run(1, 9)), [2, 1, 0])

    def test_jump_to_itself_goes_on_for_ever(self):
        self.assertEqual(last(program(1, jump(1)), run(1, 200)), [200, 0, 0])

    def test_jump_back(self):
        self.assertEqual(last(program(1, say(0), say(0), jump(1)), run(1, 100)), [100, 0, 0])

    def test_every_jump_reaches_the_end(self):
        self.assertEqual(last(program(1, jump(4), say(0), say(0)), run(1, 9)), [1, 1, 0])
        self.assertEqual(last(program(1, if_zero(0, 4), say(0), say(0)), run(1, 9)), [1, 1, 0])
        self.assertEqual(last(program(1, assign(1, 1), if_less(0, 1, 5), say(0), say(0)), run(1, 9)), [2, 1, 0])

    def test_if_zero(self):
        for x in range(4):
            self.assertEqual(last(program(1, if_zero(x, 3), jump(2)), run(1, 9)), [1, 1, 0])
            for value in (1, 65535):
                told = last(program(1, assign(x, value), if_zero(x, 2), say(0)), run(1, 9))
                self.assertEqual(told, [3, 1, 0])

    def test_if_less(self):
        def taken(first, second):
            told = last(
                program(1, assign(1, first), assign(2, second), if_less(1, 2, 5), jump(4)), run(1, 9)
            )
            return told == [3, 1, 0]

        self.assertTrue(taken(1, 2))
        self.assertTrue(taken(0, 65535))
        self.assertTrue(taken(65534, 65535))
        self.assertFalse(taken(2, 2))
        self.assertFalse(taken(0, 0))
        self.assertFalse(taken(3, 2))
        self.assertFalse(taken(65535, 0))

    def test_if_less_not_taken_goes_on(self):
        self.assertEqual(last(program(1, if_less(0, 0, 1), say(0)), run(1, 9)), [2, 1, 0])

    def test_say_is_a_step(self):
        self.assertEqual(last(program(1, say(0), say(3)), run(1, 9)), [2, 1, 0])

    def test_a_loop_that_counts(self):
        counting = program(1, assign(0, 3), assign(1, 1), minus(0, 1), if_zero(0, 6), jump(3))
        self.assertEqual(last(counting, run(1, 200)), [2 + 3 + 3 + 2, 1, 0])


if __name__ == "__main__":
    unittest.main()
