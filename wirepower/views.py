"""What is shown of the world: the numbers that an answer has behind its 0."""

from wirepower.plan import make_plan
from wirepower.world import all_drawn, all_energy, all_reserved, can_give, may_give, reserved_at


def power_view(world):
    return [can_give(world), may_give(world), all_reserved(world), all_drawn(world)]


def port_view(port):
    shown = [port.enabled, port.rank, port.most, port.faulty, port.on, port.session, port.number, reserved_at(port),
             port.wish_number, port.wish_amount, port.energy, len(port.grants)]
    for grant in port.grants:
        shown.extend(grant)
    return shown


def device_view(device):
    return [device.power_class, device.session, device.number, device.limit, device.draws, device.asked]


def plan_view(world):
    planned = make_plan(world)
    shown = [len(planned)]
    for place in planned:
        shown.extend((place, planned[place]))
    return shown


def state_view(world):
    return [world.now, len(world.bag), all_energy(world), world.could]
