"""Builds lists of calls, and takes the list of answers apart."""

from fullrooms.net import answers


def net(n, *channels):
    row = [number for channel in channels for number in channel]
    return net_row(n, row)


def net_row(n, row):
    return [0, n, len(row)] + row


def program(p, *instructions):
    row = [number for instruction in instructions for number in instruction]
    return program_row(p, row)


def program_row(p, row):
    return [1, p, len(row)] + row


def run(p, n):
    return [2, p, n]


def rounds(n):
    return [3, n]


def settle(n):
    return [4, n]


STUCK = [5]
GROW = [6]
COUNTS = [12]


def widen(c, room):
    return [7, c, room]


def process(p):
    return [8, p]


def said(p):
    return [9, p]


def channel(c):
    return [10, c]


def wrote(c):
    return [11, c]


def all_there_is(n, how_many_channels):
    """The calls that tell all of a net with n processes and so many channels."""
    calls = [STUCK, COUNTS]
    for p in range(1, n + 1):
        calls += [process(p), said(p)]
    for c in range(1, how_many_channels + 1):
        calls += [channel(c), wrote(c)]
    return calls


def get(x, c):
    return [0, x, c, 0]


def put(x, c):
    return [1, x, c, 0]


def assign(x, n):
    return [2, x, n, 0]


def copy(x, y):
    return [3, x, y, 0]


def plus(x, y):
    return [4, x, y, 0]


def minus(x, y):
    return [5, x, y, 0]


def times(x, y):
    return [6, x, y, 0]


def jump(i):
    return [7, i, 0, 0]


def if_zero(x, i):
    return [8, x, i, 0]


def if_less(x, y, i):
    return [9, x, y, i]


def say(x):
    return [10, x, 0, 0]


def split(told):
    """The list of answers as one list for each call."""
    parts = []
    at = 0
    while at < len(told):
        length = told[at]
        parts.append(told[at + 1:at + 1 + length])
        at += 1 + length
    return parts


def ask(*calls):
    """The answers to these calls, one list for each."""
    numbers = [number for call in calls for number in call]
    told = split(answers(numbers))
    # More than this is never handed in, so a test that does so would show nothing.
    if len(told) > 60 or len(numbers) > 6500:
        raise ValueError("the line is too long")
    return told


def behind(laid, *calls):
    """The answers to the calls alone, asked behind what was laid before them."""
    return ask(*laid, *calls)[len(laid):]


def last(*calls):
    return ask(*calls)[-1]
