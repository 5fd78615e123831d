"""The calls: what each refuses, does and answers."""

from wirepower.bag import bag_is_full, put
from wirepower.messages import deliver, deliver_all
from wirepower.plan import settle_ports
from wirepower.ports import ask, cut, tell
from wirepower.ranges import are_in_range, can_begin
from wirepower.views import device_view, plan_view, port_view, power_view, state_view
from wirepower.world import Device, World, all_reserved, can_give, drawn_at, order_of_ports

OUT_OF_RANGE = -1
# Of a supply, a device or a fault: it isn't there, or is already as it is asked to be. Of time: too much.
WRONG_STATE = -2
PORT_OFF = -3
BAG_FULL = -4
NO_WORLD = -9

BEGIN = 0

LAST_MOMENT = 100000000


# What one list of calls works on: begin makes a new world, which no call can do to the world itself.
class Line:
    def __init__(self):
        self.world = None


def begin(line, numbers):
    if not can_begin(numbers):
        return [OUT_OF_RANGE]
    line.world = World(numbers[0], numbers[1], numbers[2], numbers[3:])
    return [0]


def cut_what_is_too_much(world):
    for port in reversed(order_of_ports(world)):
        if port.on == 1 and all_reserved(world) > can_give(world):
            cut(port)


def answer_supply(world, numbers):
    supply = world.supplies[numbers[0]]
    if supply.on == numbers[1]:
        return [WRONG_STATE]
    supply.on = numbers[1]
    cut_what_is_too_much(world)
    return [0] + power_view(world)


def answer_spare(world, numbers):
    world.spare = numbers[0]
    return [0] + power_view(world)


def answer_port(world, numbers):
    port = world.ports[numbers[0]]
    port.enabled = numbers[1]
    port.rank = numbers[2]
    port.most = numbers[3]
    if port.enabled == 0:
        cut(port)
    return [0]


def answer_plug(world, numbers):
    port = world.ports[numbers[0]]
    if port.device is not None:
        return [WRONG_STATE]
    port.device = Device(numbers[1])
    return [0]


def answer_unplug(world, numbers):
    port = world.ports[numbers[0]]
    if port.device is None:
        return [WRONG_STATE]
    cut(port)
    port.device = None
    return [0]


def answer_settle(world, numbers):
    settle_ports(world)
    return [0] + power_view(world)


# 0 where nothing is to be refused.
def refusal_of_unlit(port):
    if port.device is None:
        return WRONG_STATE
    if port.on == 0:
        return PORT_OFF
    return 0


def answer_wish(world, numbers):
    port = world.ports[numbers[0]]
    refusal = refusal_of_unlit(port)
    if refusal < 0:
        return [refusal]
    if bag_is_full(world):
        return [BAG_FULL]
    ask(world, port, numbers[1])
    return [0, port.device.asked]


def answer_draw(world, numbers):
    port = world.ports[numbers[0]]
    refusal = refusal_of_unlit(port)
    if refusal < 0:
        return [refusal]
    device = port.device
    device.draws = min(numbers[1], device.limit)
    return [0, device.draws]


def answer_fault(world, numbers):
    port = world.ports[numbers[0]]
    refusal = refusal_of_unlit(port)
    if refusal < 0:
        return [refusal]
    cut(port)
    port.faulty = 1
    return [0]


def answer_clear(world, numbers):
    port = world.ports[numbers[0]]
    if port.faulty == 0:
        return [WRONG_STATE]
    port.faulty = 0
    return [0]


def answer_again(world, numbers):
    port = world.ports[numbers[0]]
    if port.on == 0:
        return [PORT_OFF]
    if bag_is_full(world):
        return [BAG_FULL]
    tell(world, port)
    return [0]


def answer_deliver(world, numbers):
    deliver(world, numbers[0])
    return [0, len(world.bag)]


def answer_lose(world, numbers):
    world.bag.pop(numbers[0])
    return [0]


def answer_double(world, numbers):
    if bag_is_full(world):
        return [BAG_FULL]
    put(world, world.bag[numbers[0]])
    return [0]


def answer_calm(world, numbers):
    return [0, deliver_all(world)]


def answer_tick(world, numbers):
    passed = numbers[0]
    if world.now + passed > LAST_MOMENT:
        return [WRONG_STATE]
    world.now += passed
    world.could += passed * can_give(world)
    for port in world.ports:
        port.energy += passed * drawn_at(port)
    return [0, world.now]


def answer_look(world, numbers):
    return [0] + port_view(world.ports[numbers[0]])


def answer_device(world, numbers):
    device = world.ports[numbers[0]].device
    if device is None:
        return [WRONG_STATE]
    return [0] + device_view(device)


def answer_power(world, numbers):
    return [0] + power_view(world)


def answer_plan(world, numbers):
    return [0] + plan_view(world)


def answer_peek(world, numbers):
    return [0] + list(world.bag[numbers[0]])


def answer_state(world, numbers):
    return [0] + state_view(world)


# By the call's place; None stands for begin, which alone is called without a world.
CALLS = (
    None,
    answer_supply,
    answer_spare,
    answer_port,
    answer_plug,
    answer_unplug,
    answer_settle,
    answer_wish,
    answer_draw,
    answer_fault,
    answer_clear,
    answer_again,
    answer_deliver,
    answer_lose,
    answer_double,
    answer_calm,
    answer_tick,
    answer_look,
    answer_device,
    answer_power,
    answer_plan,
    answer_peek,
    answer_state,
)


def answer(line, place, numbers):
    if place == BEGIN:
        return begin(line, numbers)
    if line.world is None:
        return [NO_WORLD]
    if not are_in_range(line.world, place, numbers):
        return [OUT_OF_RANGE]
    return CALLS[place](line.world, numbers)
