"""How all processes of a net stand, and how a standstill of the rooms is cured."""

from fullrooms.steps import AT_END, CAN_STEP, WAITS_TO_READ, WAITS_TO_WRITE
from fullrooms.steps import do_steps, how_stands, waited_channel


def how_all_stand(net):
    standings = [how_stands(net, process) for process in net.processes]
    # The numbers for all are those for one; the first of these that some process has is told.
    for standing in (CAN_STEP, WAITS_TO_WRITE, WAITS_TO_READ):
        if standing in standings:
            return standing
    return AT_END


def channels_waited_to_write(net):
    return [
        waited_channel(net, process)
        for process in net.processes
        if how_stands(net, process) == WAITS_TO_WRITE
    ]


def grow(net):
    """Give the least of the rooms that are waited for room for one more; say which channel's."""
    number = min(channels_waited_to_write(net), key=lambda c: (net.channel(c).room, c))
    channel = net.channel(number)
    channel.room += 1
    net.grown += 1
    return number


def do_round(net, most):
    for process in net.processes:
        do_steps(net, process, most)


def settle_once(net):
    standing = how_all_stand(net)
    if standing == CAN_STEP:
        do_round(net, 1)
    elif standing == WAITS_TO_WRITE:
        grow(net)
