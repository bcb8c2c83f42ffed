"""What a net is made of: channels, processes, and the net that holds them."""


class Channel:
    """A way from one process to one process, with room for so many numbers."""

    def __init__(self, writer, reader, room):
        self.writer = writer
        self.reader = reader
        self.room = room
        # What was read stays in the row, so that all that was ever written is still known.
        self.written = []
        self.taken = 0

    def is_empty(self):
        return self.taken == len(self.written)

    def is_full(self):
        return len(self.written) - self.taken >= self.room

    def take(self):
        number = self.written[self.taken]
        self.taken += 1
        return number

    def put(self, number):
        self.written.append(number)

    def on_it(self):
        return self.written[self.taken:]


class Process:
    """Four registers and a program; place is the number of the instruction that is next."""

    def __init__(self):
        self.program = []
        self.place = 1
        self.registers = [0, 0, 0, 0]
        self.said = []

    def begin(self, program):
        self.program = program
        self.place = 1
        self.registers = [0, 0, 0, 0]

    def is_at_end(self):
        return self.place > len(self.program)

    def instruction(self):
        return self.program[self.place - 1]


class Net:
    """Processes and channels, each numbered from 1 on, and what was done since they were laid."""

    def __init__(self, how_many, rows):
        self.processes = []
        self.channels = []
        self.steps = 0
        self.grown = 0
        self.lay(how_many, rows)

    def lay(self, how_many, rows):
        self.processes = [Process() for number in range(how_many)]
        self.channels = [
            Channel(rows[start], rows[start + 1], rows[start + 2])
            for start in range(0, len(rows), 3)
        ]
        self.steps = 0
        self.grown = 0

    def has_process(self, number):
        return 1 <= number <= len(self.processes)

    def process(self, number):
        return self.processes[number - 1]

    def has_channel(self, number):
        return 1 <= number <= len(self.channels)

    def channel(self, number):
        return self.channels[number - 1]
