"""The calls on a net, and their answers."""

from fullrooms.checks import channels_fit, instructions_fit
from fullrooms.parts import Net
from fullrooms.standing import do_round, grow, how_all_stand, settle_once
from fullrooms.steps import WAITS_TO_WRITE, do_steps, how_stands, waited_channel

MOST_PROCESSES = 6
MOST_RUN = 200
MOST_ROUND = 20
MOST_SETTLE = 200
MOST_WIDENED = 1000


class Calls:
    """The list of calls and how far it has been read; the list itself is only looked at."""

    def __init__(self, numbers):
        self.numbers = numbers
        self.at = 0

    def is_done(self):
        return self.at >= len(self.numbers)

    def number(self):
        self.at += 1
        return self.numbers[self.at - 1]

    def row(self):
        length = self.number()
        self.at += length
        return self.numbers[self.at - length:self.at]


def call_net(net, calls):
    how_many = calls.number()
    rows = calls.row()
    if not 1 <= how_many <= MOST_PROCESSES:
        return [-1]
    if not channels_fit(how_many, rows):
        return [-2]
    net.lay(how_many, rows)
    return [len(net.channels)]


def call_program(net, calls):
    owner = calls.number()
    numbers = calls.row()
    if not net.has_process(owner):
        return [-1]
    if net.steps > 0:
        return [-7]
    if not instructions_fit(net, owner, numbers):
        return [-3]
    program = [numbers[start:start + 4] for start in range(0, len(numbers), 4)]
    net.process(owner).begin(program)
    return [len(program)]


def call_run(net, calls):
    number = calls.number()
    most = calls.number()
    if not net.has_process(number):
        return [-1]
    if most > MOST_RUN:
        return [-2]
    process = net.process(number)
    done = do_steps(net, process, most)
    return [done, how_stands(net, process), waited_channel(net, process)]


def call_round(net, calls):
    most = calls.number()
    if most > MOST_ROUND:
        return [-2]
    steps_before = net.steps
    do_round(net, most)
    return [net.steps - steps_before]


def call_settle(net, calls):
    times = calls.number()
    if times > MOST_SETTLE:
        return [-2]
    steps_before = net.steps
    grown_before = net.grown
    for turn in range(times):
        settle_once(net)
    return [net.steps - steps_before, net.grown - grown_before, how_all_stand(net)]


def call_stuck(net, calls):
    return [how_all_stand(net)]


def call_grow(net, calls):
    if how_all_stand(net) != WAITS_TO_WRITE:
        return [-5]
    number = grow(net)
    return [number, net.channel(number).room]


def call_widen(net, calls):
    number = calls.number()
    room = calls.number()
    if not net.has_channel(number):
        return [-1]
    channel = net.channel(number)
    if not channel.room <= room <= MOST_WIDENED:
        return [-2]
    channel.room = room
    return [room]


def call_process(net, calls):
    number = calls.number()
    if not net.has_process(number):
        return [-1]
    process = net.process(number)
    return [how_stands(net, process), waited_channel(net, process), process.place] + process.registers


def call_said(net, calls):
    number = calls.number()
    if not net.has_process(number):
        return [-1]
    said = net.process(number).said
    return [len(said)] + said


def call_channel(net, calls):
    number = calls.number()
    if not net.has_channel(number):
        return [-1]
    channel = net.channel(number)
    unread = channel.on_it()
    return [channel.room, len(unread)] + unread


def call_wrote(net, calls):
    number = calls.number()
    if not net.has_channel(number):
        return [-1]
    written = net.channel(number).written
    return [len(written)] + written


def call_counts(net, calls):
    return [net.steps, net.grown]


# By the call's number.
CALLS = (
    call_net,
    call_program,
    call_run,
    call_round,
    call_settle,
    call_stuck,
    call_grow,
    call_widen,
    call_process,
    call_said,
    call_channel,
    call_wrote,
    call_counts,
)


def answers(calls):
    unread = Calls(calls)
    # At a line's beginning: two processes, and one channel from 1 to 2 with room 1.
    net = Net(2, [1, 2, 1])
    told = []
    while not unread.is_done():
        answer = CALLS[unread.number()](net, unread)
        told.append(len(answer))
        told.extend(answer)
    return told
