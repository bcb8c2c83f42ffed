"""Lines of up to 60 calls, all thirteen mixed, held against a second and plainer telling of the document."""

import random
import unittest

from fullrooms.net import answers
from lines import split

HIGHEST = 4294967295
NAMES = (
    "net", "program", "run", "round", "settle", "stuck", "grow",
    "widen", "process", "said", "channel", "wrote", "counts",
)


class Refused(Exception):
    pass


class Plain:
    """One net, told as near to the document's words as can be; each call is a method that gives its answer."""

    def __init__(self):
        self.net(2, [1, 2, 1])

    def refuse(self, number, if_so):
        if if_so:
            raise Refused(number)

    def net(self, n, channels):
        self.refuse(-1, n not in range(1, 7))
        self.refuse(-2, len(channels) not in range(0, 31, 3))
        triples = list(zip(channels[::3], channels[1::3], channels[2::3]))
        for start, end, room in triples:
            self.refuse(-2, not (0 < start <= n and 0 < end <= n and 0 < room < 51))
        self.ends = {c: triple[:2] for c, triple in enumerate(triples, 1)}
        self.rooms = {c: triple[2] for c, triple in enumerate(triples, 1)}
        self.on = {c: [] for c in self.ends}
        self.ever = {c: [] for c in self.ends}
        self.programs = {p: {} for p in range(1, n + 1)}
        self.following = {p: 1 for p in self.programs}
        self.cells = {p: [0] * 4 for p in self.programs}
        self.words = {p: [] for p in self.programs}
        self.steps = self.growings = 0
        return [len(triples)]

    def must_be_a_process(self, p):
        self.refuse(-1, p not in self.programs)

    def must_be_a_channel(self, c):
        self.refuse(-1, c not in self.ends)

    def is_by_the_table(self, p, behind, what, a, b, c):
        cells, ends = range(4), self.ends
        return {
            0: lambda: a in cells and b in ends and ends[b][1] == p and c == 0,
            1: lambda: a in cells and b in ends and ends[b][0] == p and c == 0,
            2: lambda: a in cells and b < 65536 and c == 0,
            3: lambda: a in cells and b in cells and c == 0,
            4: lambda: a in cells and b in cells and c == 0,
            5: lambda: a in cells and b in cells and c == 0,
            6: lambda: a in cells and b in cells and c == 0,
            7: lambda: 0 < a <= behind and b == 0 and c == 0,
            8: lambda: a in cells and 0 < b <= behind and c == 0,
            9: lambda: a in cells and b in cells and 0 < c <= behind,
            10: lambda: a in cells and b == 0 and c == 0,
        }.get(what, lambda: False)()

    def program(self, p, instructions):
        self.must_be_a_process(p)
        self.refuse(-7, self.steps != 0)
        self.refuse(-3, len(instructions) not in range(0, 97, 4))
        fours = [instructions[at:at + 4] for at in range(0, len(instructions), 4)]
        for four in fours:
            self.refuse(-3, not self.is_by_the_table(p, len(fours) + 1, *four))
        self.programs[p] = dict(enumerate(fours, 1))
        self.following[p] = 1
        self.cells[p] = [0] * 4
        return [len(fours)]

    def standing(self, p):
        """How the process stands, and for which channel it waits."""
        if self.following[p] not in self.programs[p]:
            return 1, 0
        what, x, c, rest = self.programs[p][self.following[p]]
        if what == 0 and not self.on[c]:
            return 2, c
        if what == 1 and len(self.on[c]) == self.rooms[c]:
            return 3, c
        return 0, 0

    def step(self, p):
        what, a, b, c = self.programs[p][self.following[p]]
        cells = self.cells[p]
        goes_to = self.following[p] + 1
        if what == 0:
            cells[a] = self.on[b].pop(0)
        elif what == 1:
            self.on[b].append(cells[a])
            self.ever[b].append(cells[a])
        elif what == 2:
            cells[a] = b
        elif what == 3:
            cells[a] = cells[b]
        elif what in (4, 5, 6):
            cells[a] = {4: cells[a] + cells[b], 5: cells[a] - cells[b], 6: cells[a] * cells[b]}[what] % 65536
        elif what == 7:
            goes_to = a
        elif what == 8 and cells[a] == 0:
            goes_to = b
        elif what == 9 and cells[a] < cells[b]:
            goes_to = c
        elif what == 10:
            self.words[p].append(cells[a])
        self.following[p] = goes_to
        self.steps += 1

    def go(self, p, n):
        before = self.steps
        while self.steps - before < n and self.standing(p)[0] == 0:
            self.step(p)
        return self.steps - before

    def all_standing(self):
        standings = [self.standing(p)[0] for p in self.programs]
        if 0 in standings:
            return 0
        if all(standing == 1 for standing in standings):
            return 1
        return 3 if 3 in standings else 2

    def make_larger(self):
        waited = sorted(c for standing, c in map(self.standing, self.programs) if standing == 3)
        least = min(self.rooms[c] for c in waited)
        grows = [c for c in waited if self.rooms[c] == least][0]
        self.rooms[grows] += 1
        self.growings += 1
        return grows

    def run(self, p, n):
        self.must_be_a_process(p)
        self.refuse(-2, n > 200)
        return [self.go(p, n), *self.standing(p)]

    def round(self, n):
        self.refuse(-2, n > 20)
        return [sum(self.go(p, n) for p in self.programs)]

    def settle(self, n):
        self.refuse(-2, n > 200)
        steps = growings = 0
        for turn in range(n):
            standing = self.all_standing()
            if standing == 0:
                steps += sum(self.go(p, 1) for p in self.programs)
            elif standing == 3:
                self.make_larger()
                growings += 1
        return [steps, growings, self.all_standing()]

    def stuck(self):
        return [self.all_standing()]

    def grow(self):
        self.refuse(-5, self.all_standing() != 3)
        c = self.make_larger()
        return [c, self.rooms[c]]

    def widen(self, c, room):
        self.must_be_a_channel(c)
        self.refuse(-2, room < self.rooms[c] or room > 1000)
        self.rooms[c] = room
        return [room]

    def process(self, p):
        self.must_be_a_process(p)
        return [*self.standing(p), self.following[p], *self.cells[p]]

    def said(self, p):
        self.must_be_a_process(p)
        return [len(self.words[p]), *self.words[p]]

    def channel(self, c):
        self.must_be_a_channel(c)
        return [self.rooms[c], len(self.on[c]), *self.on[c]]

    def wrote(self, c):
        self.must_be_a_channel(c)
        return [len(self.ever[c]), *self.ever[c]]

    def counts(self):
        return [self.steps, self.growings]

    def answer(self, name, *handed):
        try:
            return getattr(self, name)(*handed)
        except Refused as refusal:
            return [refusal.args[0]]


class Lines:
    """Makes lines: mostly such as are granted, so that the nets live, and now and then one that is not."""

    def __init__(self, seed):
        self.chance = random.Random(seed)
        self.n = 2
        self.ends = [(1, 2, 1)]

    def seldom(self):
        return self.chance.random() < 0.06

    def odd(self):
        return self.chance.choice([0, 1, 4, 7, 11, 51, 65536, HIGHEST])

    def among(self, highest):
        """A number from 1 to the highest, or at times one at the edge or beyond it."""
        if self.seldom() or highest == 0:
            return self.chance.choice([0, highest, highest + 1, HIGHEST])
        return self.chance.randint(1, highest)

    def amount(self, most):
        if self.seldom():
            return self.chance.choice([0, most, most + 1, HIGHEST])
        return self.chance.randint(0, most // self.chance.choice([1, 4, 20]))

    def spoilt(self, row, longest):
        """The row as it is, or at times longer, shorter or with an odd number."""
        row = list(row)
        if self.seldom():
            spoil = self.chance.randint(0, 2)
            if spoil == 0 and row:
                row[self.chance.randrange(len(row))] = self.odd()
            elif spoil == 1:
                row = row[:-1]
            else:
                row = (row + [1] * self.chance.choice([1, 3, 4, 40, 104]))[:longest]
        return row

    def net(self):
        n = self.chance.randint(1, 6)
        ends = [
            (self.chance.randint(1, n), self.chance.randint(1, n), self.chance.choice([1, 1, 2, 3, 50]))
            for c in range(self.chance.choice([0, 1, 3, 6, 9, 10]))
        ]
        handed = 0 if self.seldom() else 7 if self.seldom() else n
        row = [number for end in ends for number in end]
        spoilt = self.spoilt(row, 36)
        if handed == n and spoilt == row:
            self.n, self.ends = n, ends
        return handed, spoilt

    def instruction(self, p, length):
        x, y = self.chance.randint(0, 3), self.chance.randint(0, 3)
        place = self.chance.randint(1, length + 1)
        reads = [c for c, end in enumerate(self.ends, 1) if end[1] == p]
        writes = [c for c, end in enumerate(self.ends, 1) if end[0] == p]
        forms = [[7, place, 0, 0], [8, x, place, 0], [9, x, y, place]]
        forms += [[2, x, self.chance.choice([0, 1, 2, 300, 65535]), 0]] * 3
        forms += [[3, x, y, 0], [4, x, y, 0], [5, x, y, 0], [6, x, y, 0]] * 2
        forms += [[10, x, 0, 0]] * 3
        forms += [[0, x, self.chance.choice(reads), 0]] * 3 if reads else []
        forms += [[1, x, self.chance.choice(writes), 0]] * 9 if writes else []
        return self.chance.choice(forms)

    def program(self, p):
        length = self.chance.choice([0, 2, 3, 6, 10, 16, 24, 24])
        instructions = [self.instruction(p, length) for at in range(length)]
        if length > 0 and self.chance.random() < 0.6:
            # Most go on and on, so that numbers flow and rooms get full.
            instructions[-1] = [7, 1, 0, 0]
        return p, self.spoilt([number for instruction in instructions for number in instruction], 104)

    def programs(self):
        return [("program", *self.program(p)) for p in range(1, self.n + 1)]

    def call(self):
        name = self.chance.choice(NAMES[2:] if self.chance.random() < 0.95 else NAMES[:2])
        if name == "net":
            return name, *self.net()
        if name == "program":
            return name, *self.program(self.among(self.n))
        if name == "run":
            return name, self.among(self.n), self.amount(200)
        if name in ("round", "settle"):
            return name, self.amount(20 if name == "round" else 200)
        if name == "widen":
            return name, self.among(len(self.ends)), self.chance.choice([0, 1, 2, 3, 4, 5, 50, 51, 999, 1000, 1001])
        if name in ("process", "said"):
            return name, self.among(self.n)
        if name in ("channel", "wrote"):
            return name, self.among(len(self.ends))
        return (name,)

    def line(self):
        calls = [("net", *self.net())] if self.chance.random() < 0.8 else []
        calls += self.programs()
        while len(calls) < 60:
            calls.append(self.call())
            if calls[-1][0] == "net":
                calls += self.programs()
        return calls[:self.chance.choice([1, 15, 60, 60])]


def flat(calls):
    numbers = []
    for name, *handed in calls:
        numbers.append(NAMES.index(name))
        for part in handed:
            numbers += [len(part), *part] if isinstance(part, list) else [part]
    return numbers


class Mixed(unittest.TestCase):
    def setUp(self):
        self.lines = [Lines(seed).line() for seed in range(500)]

    def test_as_the_plain_telling_answers(self):
        seen = set()
        for calls in self.lines:
            plain = Plain()
            expected = [plain.answer(*call) for call in calls]
            self.assertEqual(split(answers(flat(calls))), expected)
            seen |= {(call[0], min(answer[0], 0)) for call, answer in zip(calls, expected)}
        # The lines are of use only if each call was granted somewhere, and each refusal met.
        refusals = {("net", -1), ("net", -2), ("program", -1), ("program", -7), ("program", -3)}
        refusals |= {(name, -2) for name in ("run", "round", "settle", "widen")} | {("grow", -5)}
        refusals |= {(name, -1) for name in ("run", "widen", "process", "said", "channel", "wrote")}
        self.assertEqual(seen, refusals | {(name, 0) for name in NAMES})

    def test_the_list_that_is_handed_in_is_the_same_afterwards(self):
        for calls in self.lines:
            numbers = flat(calls)
            answers(numbers)
            self.assertEqual(numbers, flat(calls))

    def test_asking_twice_gives_the_same_answers(self):
        first = [answers(flat(calls)) for calls in self.lines]
        again = [answers(flat(calls)) for calls in reversed(self.lines)]
        self.assertEqual(first, again[::-1])

    def test_one_list_asked_twice_within_a_run_of_others(self):
        numbers = flat(self.lines[0])
        told = answers(numbers)
        for calls in self.lines[:50]:
            answers(flat(calls))
            self.assertEqual(answers(numbers), told)

    def test_the_lines_are_such_as_may_be_handed_in(self):
        self.assertEqual(max(len(calls) for calls in self.lines), 60)
        for calls in self.lines:
            self.assertLessEqual(len(flat(calls)), 6500)
            self.assertLessEqual(len(answers(flat(calls))), 1000000)


if __name__ == "__main__":
    unittest.main()
