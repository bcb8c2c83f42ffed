"""Whether channels and instructions are such as can be granted."""

MOST_CHANNELS = 10
MOST_ROOM = 50
MOST_INSTRUCTIONS = 24
LAST_REGISTER = 3
MOST_VALUE = 65535

# For each instruction, by its number: of which kind the three numbers behind it are.
KINDS = (
    ("cell", "source", "zero"),
    ("cell", "target", "zero"),
    ("cell", "value", "zero"),
    ("cell", "cell", "zero"),
    ("cell", "cell", "zero"),
    ("cell", "cell", "zero"),
    ("cell", "cell", "zero"),
    ("place", "zero", "zero"),
    ("cell", "place", "zero"),
    ("cell", "cell", "place"),
    ("cell", "zero", "zero"),
)


def channel_fits(how_many, writer, reader, room):
    return 1 <= writer <= how_many and 1 <= reader <= how_many and 1 <= room <= MOST_ROOM


def channels_fit(how_many, rows):
    if len(rows) % 3 != 0 or len(rows) // 3 > MOST_CHANNELS:
        return False
    for start in range(0, len(rows), 3):
        if not channel_fits(how_many, rows[start], rows[start + 1], rows[start + 2]):
            return False
    return True


def is_source(net, owner, number):
    return net.has_channel(number) and net.channel(number).reader == owner


def is_target(net, owner, number):
    return net.has_channel(number) and net.channel(number).writer == owner


def number_fits(net, owner, behind_last, kind, number):
    if kind == "cell":
        return number <= LAST_REGISTER
    if kind == "source":
        return is_source(net, owner, number)
    if kind == "target":
        return is_target(net, owner, number)
    if kind == "value":
        return number <= MOST_VALUE
    if kind == "place":
        return 1 <= number <= behind_last
    return number == 0


def instruction_fits(net, owner, behind_last, instruction):
    if instruction[0] >= len(KINDS):
        return False
    kinds = KINDS[instruction[0]]
    for at in range(3):
        if not number_fits(net, owner, behind_last, kinds[at], instruction[at + 1]):
            return False
    return True


def instructions_fit(net, owner, numbers):
    if len(numbers) % 4 != 0 or len(numbers) // 4 > MOST_INSTRUCTIONS:
        return False
    behind_last = len(numbers) // 4 + 1
    for start in range(0, len(numbers), 4):
        if not instruction_fits(net, owner, behind_last, numbers[start:start + 4]):
            return False
    return True
