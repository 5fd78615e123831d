"""The calls: what each refuses, does and answers."""

from wirepower.plan import settle_ports
from wirepower.ports import ask, bag_is_full, cut, tell
from wirepower.world import Device, World, all_drawn, all_reserved, can_give, may_give, order_of_ports

OUT_OF_RANGE = -1
# Of a supply, a device or a fault: it isn't there, or is already as it is asked to be.
WRONG_STATE = -2
PORT_OFF = -3
BAG_FULL = -4
NO_WORLD = -9

BEGIN = 0

RANGES = {
    "ports": (1, 48),
    "cap": (1, 10000),
    "bit": (0, 1),
    "supply amount": (1, 10000000),
    "rank": (0, 3),
    "class": (1, 4),
    "amount": (0, 100000),
}

# The ranges of each call's numbers, by the call's place; begin, at place 0, has a check of its own.
NUMBERS = (
    (),
    ("supply", "bit"),
    ("bit",),
    ("port", "bit", "rank", "amount"),
    ("port", "class"),
    ("port",),
    (),
    ("port", "amount"),
    ("port", "amount"),
    ("port",),
    ("port",),
    ("port",),
)


# What one list of calls works on: begin makes a new world, which no call can do to the world itself.
class Line:
    def __init__(self):
        self.world = None


def is_within(number, ends):
    return ends[0] <= number <= ends[1]


def ends_of(world, name):
    if name == "port":
        return (0, len(world.ports) - 1)
    if name == "supply":
        return (0, len(world.supplies) - 1)
    return RANGES[name]


def are_in_range(world, place, numbers):
    return all([is_within(number, ends_of(world, name)) for number, name in zip(numbers, NUMBERS[place])])


def can_begin(numbers):
    amounts = numbers[3:]
    if not is_within(len(amounts), (1, 4)):
        return False
    if not all([is_within(amount, RANGES["supply amount"]) for amount in amounts]):
        return False
    return (is_within(numbers[0], RANGES["ports"]) and is_within(numbers[1], RANGES["cap"])
            and is_within(numbers[2], RANGES["bit"]))


def begin(line, numbers):
    if not can_begin(numbers):
        return [OUT_OF_RANGE]
    line.world = World(numbers[0], numbers[1], numbers[2], numbers[3:])
    return [0]


def power_answer(world):
    return [0, can_give(world), may_give(world), all_reserved(world), all_drawn(world)]


def cut_what_is_too_much(world):
    for port in reversed(order_of_ports(world)):
        if port.on == 1 and all_reserved(world) > can_give(world):
            cut(port)


def answer_supply(world, numbers):
    supply = world.supplies[numbers[0]]
    if supply.on == numbers[1]:
        return [WRONG_STATE]
    supply.on = numbers[1]
    cut_what_is_too_much(world)
    return power_answer(world)


def answer_spare(world, numbers):
    world.spare = numbers[0]
    return power_answer(world)


def answer_port(world, numbers):
    port = world.ports[numbers[0]]
    port.enabled = numbers[1]
    port.rank = numbers[2]
    port.most = numbers[3]
    if port.enabled == 0:
        cut(port)
    return [0]


def answer_plug(world, numbers):
    port = world.ports[numbers[0]]
    if port.device is not None:
        return [WRONG_STATE]
    port.device = Device(numbers[1])
    return [0]


def answer_unplug(world, numbers):
    port = world.ports[numbers[0]]
    if port.device is None:
        return [WRONG_STATE]
    cut(port)
    port.device = None
    return [0]


def answer_settle(world, numbers):
    settle_ports(world)
    return power_answer(world)


# 0 where nothing is to be refused.
def refusal_of_unlit(port):
    if port.device is None:
        return WRONG_STATE
    if port.on == 0:
        return PORT_OFF
    return 0


def answer_wish(world, numbers):
    port = world.ports[numbers[0]]
    refusal = refusal_of_unlit(port)
    if refusal < 0:
        return [refusal]
    if bag_is_full(world):
        return [BAG_FULL]
    ask(world, port, numbers[1])
    return [0, port.device.asked]


def answer_draw(world, numbers):
    port = world.ports[numbers[0]]
    refusal = refusal_of_unlit(port)
    if refusal < 0:
        return [refusal]
    device = port.device
    device.draws = min(numbers[1], device.limit)
    return [0, device.draws]


def answer_fault(world, numbers):
    port = world.ports[numbers[0]]
    refusal = refusal_of_unlit(port)
    if refusal < 0:
        return [refusal]
    cut(port)
    port.faulty = 1
    return [0]


def answer_clear(world, numbers):
    port = world.ports[numbers[0]]
    if port.faulty == 0:
        return [WRONG_STATE]
    port.faulty = 0
    return [0]


def answer_again(world, numbers):
    port = world.ports[numbers[0]]
    if port.on == 0:
        return [PORT_OFF]
    if bag_is_full(world):
        return [BAG_FULL]
    tell(world, port)
    return [0]


# By the call's place; None stands for begin, which alone is called without a world.
CALLS = (
    None,
    answer_supply,
    answer_spare,
    answer_port,
    answer_plug,
    answer_unplug,
    answer_settle,
    answer_wish,
    answer_draw,
    answer_fault,
    answer_clear,
    answer_again,
)


def answer(line, place, numbers):
    if place == BEGIN:
        return begin(line, numbers)
    if line.world is None:
        return [NO_WORLD]
    if not are_in_range(line.world, place, numbers):
        return [OUT_OF_RANGE]
    return CALLS[place](line.world, numbers)
