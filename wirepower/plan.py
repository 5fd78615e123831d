"""The plan, which says what ports are to be lit and with how much, and settling the ports by it."""

from wirepower.ports import cut, give, latest_amount, light, tell
from wirepower.world import all_reserved, base_of, may_give, order_of_ports, reserved_at


def is_fit(port):
    return port.enabled == 1 and port.faulty == 0 and port.device is not None


def surplus_wished(port):
    return max(0, min(port.wish_amount, port.most) - base_of(port.device))


# A dict from a port's place to its amount: both to look a port up and to walk the plan in the order.
def make_plan(world):
    left = may_give(world)
    planned = {}
    for port in order_of_ports(world):
        if is_fit(port) and base_of(port.device) <= left:
            planned[port.place] = base_of(port.device)
            left -= planned[port.place]
    for place in list(planned):
        surplus = min(left, surplus_wished(world.ports[place]))
        planned[place] += surplus
        left -= surplus
    return planned


def lower_port(world, port, planned):
    if port.place not in planned:
        cut(port)
    elif latest_amount(port) > planned[port.place]:
        give(world, port, planned[port.place])


def has_room_to_light(world, port):
    return all_reserved(world) + base_of(port.device) <= may_give(world)


def has_room_for(world, port, amount):
    others = all_reserved(world) - reserved_at(port)
    return others + max(reserved_at(port), amount) <= may_give(world)


def raise_port(world, port, amount):
    if latest_amount(port) < amount and has_room_for(world, port, amount):
        give(world, port, amount)
    elif len(port.grants) >= 2:
        tell(world, port)


def settle_ports(world):
    planned = make_plan(world)
    for port in order_of_ports(world):
        if port.on == 1:
            lower_port(world, port, planned)
    for place in planned:
        port = world.ports[place]
        if port.on == 1:
            raise_port(world, port, planned[place])
        elif has_room_to_light(world, port):
            light(port)
