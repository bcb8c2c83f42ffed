"""What is promised of the whole: the streams are always the same, a standstill of the rooms alone is cured, and no
room grows larger than it must."""

import random
import unittest

from lines import (
    COUNTS, STUCK, assign, behind, channel, get, if_zero, net, plus, process, program, put, rounds, run, said, say,
    settle, widen, wrote,
)

HOW_MANY_CHANNELS = 8
EACH_CHANNEL = range(1, HOW_MANY_CHANNELS + 1)


def some_program(chance, p, ends):
    doings = [assign(0, 1), plus(1, 0), plus(2, 1), say(1), say(2)]
    doings += [put(x, c) for c, end in enumerate(ends, 1) for x in (1, 2) if end[0] == p]
    doings += [get(x, c) for c, end in enumerate(ends, 1) for x in (1, 2) if end[1] == p]
    length = chance.randint(1, 14)
    # Jumps go forward alone, so that each program comes to rest.
    return program(p, *[
        if_zero(1, chance.randint(at + 1, length + 1)) if chance.random() < 0.15 else chance.choice(doings)
        for at in range(1, length + 1)
    ])


def some_net(chance):
    """How many processes; the rooms; the calls that lay the net and its programs."""
    n = chance.randint(2, 5)
    ends = [(chance.randint(1, n), chance.randint(1, n), chance.randint(1, 3)) for c in EACH_CHANNEL]
    calls = [net(n, *ends)] + [some_program(chance, p, ends) for p in range(1, n + 1)]
    return n, [end[2] for end in ends], calls


def streams(n):
    return [said(p) for p in range(1, n + 1)] + [wrote(c) for c in EACH_CHANNEL]


def in_the_end(n):
    return [STUCK, COUNTS] + [process(p) for p in range(1, n + 1)]


def is_beginning_of(one, other):
    """Whether what one answer of said or wrote tells is the beginning of what another tells."""
    return one[1:] == other[1:len(one)]


class Streams(unittest.TestCase):
    def some_nets(self, seed, how_many):
        chance = random.Random(seed)
        for case in range(how_many):
            yield (chance,) + some_net(chance)

    def at_rest(self, laid, going, asked):
        """The answers to what is asked, when the going has brought all to a standstill."""
        told = behind(laid, *going, rounds(20), *asked)[len(going):]
        self.assertEqual(told[0], [0])
        return told[1:]

    def settled(self, laid, asked):
        told = self.at_rest(laid, [settle(200)], [STUCK] + asked)
        self.assertIn(told[0], ([1], [2]))
        return told[1:]

    def test_the_same_whoever_is_let_go_first(self):
        seen = set()
        for chance, n, rooms, laid in self.some_nets(91, 300):
            asked = in_the_end(n) + streams(n)
            outcomes = []
            for order in range(4):
                going = [run(chance.randint(1, n), chance.randint(1, 3)) for turn in range(12)]
                going += [rounds(chance.randint(1, 20)) for turn in range(15)]
                outcomes.append(self.at_rest(laid, going, asked))
            self.assertEqual(outcomes, outcomes[:1] * 4)
            seen.add(outcomes[0][0][0])
        self.assertEqual(seen, {1, 2, 3})

    def test_as_far_as_they_go(self):
        for chance, n, rooms, laid in self.some_nets(92, 200):
            whole = self.settled(laid, streams(n))
            going = [run(chance.randint(1, n), chance.randint(1, 3)) for turn in range(chance.randint(1, 20))]
            for one, other in zip(behind(laid, *going, *streams(n))[len(going):], whole):
                self.assertTrue(is_beginning_of(one, other), (one, other))

    def test_the_rooms_do_not_change_the_streams(self):
        for chance, n, rooms, laid in self.some_nets(93, 200):
            wide = [widen(c, 1000) for c in EACH_CHANNEL] + [rounds(20)] * 15
            self.assertEqual(self.settled(laid, streams(n)), self.at_rest(laid, wide, streams(n)))

    def test_a_standstill_of_the_rooms_alone_is_cured(self):
        cured = 0
        for chance, n, rooms, laid in self.some_nets(94, 200):
            stuck = self.at_rest(laid, [rounds(20)] * 15, [STUCK])[0]
            grown = self.settled(laid, [COUNTS])[0][1]
            self.assertEqual(grown > 0, stuck == [3])
            cured += grown > 0
        self.assertGreater(cured, 20)

    def test_no_room_grows_larger_than_it_must(self):
        grown = 0
        for chance, n, rooms, laid in self.some_nets(95, 400):
            after = [answer[0] for answer in self.settled(laid, [channel(c) for c in EACH_CHANNEL])]
            larger = [room for before, room in zip(rooms, after) if room > before]
            if larger:
                # Were all rooms at least one less than the largest that grew, it would still not be enough.
                less = [widen(c, max(room, max(larger) - 1)) for c, room in zip(EACH_CHANNEL, rooms)]
                self.assertEqual(self.at_rest(laid, less + [rounds(20)] * 15, [STUCK]), [[3]])
                grown += max(larger) > 2
        self.assertGreater(grown, 20)


if __name__ == "__main__":
    unittest.main()
