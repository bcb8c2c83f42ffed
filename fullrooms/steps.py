"""How one process stands, and what it does when it steps."""

CAN_STEP = 0
AT_END = 1
WAITS_TO_READ = 2
WAITS_TO_WRITE = 3

GET = 0
PUT = 1
MODULUS = 65536


def how_stands(net, process):
    if process.is_at_end():
        return AT_END
    instruction = process.instruction()
    if instruction[0] == GET and net.channel(instruction[2]).is_empty():
        return WAITS_TO_READ
    if instruction[0] == PUT and net.channel(instruction[2]).is_full():
        return WAITS_TO_WRITE
    return CAN_STEP


def waited_channel(net, process):
    """The number of the channel that the process waits for, or 0."""
    standing = how_stands(net, process)
    if standing == WAITS_TO_READ or standing == WAITS_TO_WRITE:
        return process.instruction()[2]
    return 0


def do_get(net, process, x, c, zero):
    process.registers[x] = net.channel(c).take()


def do_put(net, process, x, c, zero):
    net.channel(c).put(process.registers[x])


def do_set(net, process, x, n, zero):
    process.registers[x] = n


def do_copy(net, process, x, y, zero):
    process.registers[x] = process.registers[y]


def do_plus(net, process, x, y, zero):
    process.registers[x] = (process.registers[x] + process.registers[y]) % MODULUS


def do_minus(net, process, x, y, zero):
    process.registers[x] = (process.registers[x] - process.registers[y]) % MODULUS


def do_times(net, process, x, y, zero):
    process.registers[x] = (process.registers[x] * process.registers[y]) % MODULUS


def do_jump(net, process, i, zero, zero_too):
    process.place = i


def do_if_zero(net, process, x, i, zero):
    if process.registers[x] == 0:
        process.place = i


def do_if_less(net, process, x, y, i):
    if process.registers[x] < process.registers[y]:
        process.place = i


def do_say(net, process, x, zero, zero_too):
    process.said.append(process.registers[x])


# By the instruction's number.
DOINGS = (
    do_get,
    do_put,
    do_set,
    do_copy,
    do_plus,
    do_minus,
    do_times,
    do_jump,
    do_if_zero,
    do_if_less,
    do_say,
)


def do_step(net, process):
    instruction = process.instruction()
    # The place moves on first, so that a jump has the last word.
    process.place += 1
    DOINGS[instruction[0]](net, process, instruction[1], instruction[2], instruction[3])
    net.steps += 1


def do_steps(net, process, most):
    """Do that many steps, or as many as the process can; say how many."""
    done = 0
    while done < most and how_stands(net, process) == CAN_STEP:
        do_step(net, process)
        done += 1
    return done
