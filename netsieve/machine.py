"""The machine: what code tells of a packet, and in how many steps."""

from netsieve.errors import Stuck
from netsieve.numbers import reckoned


class Machine:
    def __init__(self):
        self.hand = 0
        self.other = 0
        # A slot with nothing in it has no entry.
        self.slots = {}
        self.place = 0
        self.done = 0
        # None until the code has ended.
        self.told = None


def run(code, packet):
    return ended(code, packet).told


def steps_of(code, packet):
    return ended(code, packet).done


def ended(code, packet):
    machine = Machine()
    while machine.told is None:
        if machine.place >= len(code):
            raise Stuck(machine.place)
        do_step(machine, code[machine.place], packet)
    return machine


def do_step(machine, step, packet):
    if step[0] == "tell":
        machine.told = step[1]
    elif step[0] == "tella":
        machine.told = machine.hand
    elif step[0] in ("setx", "tax", "keep"):
        put_away(machine, step)
    elif step[0] not in ("jump", "if", "ifx"):
        take_in_hand(machine, value_of(machine, step, packet))
    machine.done += 1
    machine.place += 1 + distance(machine, step)


def put_away(machine, step):
    if step[0] == "setx":
        machine.other = step[1]
    elif step[0] == "tax":
        machine.other = machine.hand
    else:
        machine.slots[step[1]] = machine.hand


def take_in_hand(machine, value):
    if value is None:
        machine.told = 0
    else:
        machine.hand = value


# What the step brings into the hand; None where the code ends there and tells 0.
def value_of(machine, step, packet):
    if step[0] == "load":
        ahead = machine.other if step[2] == "x" else 0
        return loaded(packet, step[1], ahead + step[3])
    if step[0] == "len":
        return len(packet)
    if step[0] == "set":
        return step[1]
    if step[0] == "txa":
        return machine.other
    if step[0] == "do":
        return reckoned(step[1], machine.hand, step[2])
    if step[0] == "dox":
        return reckoned(step[1], machine.hand, machine.other)
    return fetched(machine, step[1])


def fetched(machine, slot):
    if slot not in machine.slots:
        raise Stuck(machine.place)
    return machine.slots[slot]


# None where the bytes are not all there.
def loaded(packet, size, start):
    # Python would count a start below 0 from the packet's end.
    if start < 0 or start + size > len(packet):
        return None
    number = 0
    for byte in packet[start:start + size]:
        number = number * 256 + byte
    return number


# How much further than the next step the machine goes on.
def distance(machine, step):
    if step[0] == "jump":
        return step[1]
    if step[0] == "if":
        return step[3] if holds(step[1], machine.hand, step[2]) else step[4]
    if step[0] == "ifx":
        return step[2] if holds(step[1], machine.hand, machine.other) else step[3]
    return 0


def holds(test, one, other):
    if test == "equal":
        return one == other
    if test == "above":
        return one > other
    if test == "least":
        return one >= other
    return one & other != 0
