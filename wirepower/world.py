"""What there is: the world with its supplies, ports and devices, and the sums over them."""

FIRST_MOST = 30000

# The base of each class at the class's own place; there is no class 0.
BASES = (0, 4000, 7000, 15400, 30000)


class Supply:
    def __init__(self, amount):
        self.amount = amount
        self.on = 1


class Device:
    def __init__(self, power_class):
        self.power_class = power_class
        self.session = 0
        self.number = 0
        self.limit = 0
        self.draws = 0
        self.asked = 0


class Port:
    def __init__(self, place):
        self.place = place
        self.enabled = 1
        self.rank = 0
        self.most = FIRST_MOST
        self.faulty = 0
        self.on = 0
        self.session = 0
        self.number = 0
        self.grants = []
        self.wish_number = 0
        self.wish_amount = 0
        self.energy = 0
        self.device = None


class World:
    def __init__(self, port_count, cap, spare, amounts):
        self.now = 0
        self.could = 0
        self.cap = cap
        self.spare = spare
        self.supplies = [Supply(amount) for amount in amounts]
        self.ports = [Port(place) for place in range(port_count)]
        self.bag = []


def base_of(device):
    return BASES[device.power_class]


def amounts_on(world):
    return [supply.amount for supply in world.supplies if supply.on == 1]


def can_give(world):
    return sum(amounts_on(world))


def may_give(world):
    if world.spare == 0:
        return can_give(world)
    return can_give(world) - max(amounts_on(world), default=0)


def reserved_at(port):
    # The device may still go by any of the grants, so the greatest counts, not the latest.
    if port.on == 0:
        return 0
    return max([grant[1] for grant in port.grants])


def all_reserved(world):
    return sum([reserved_at(port) for port in world.ports])


def drawn_at(port):
    if port.on == 0 or port.device is None:
        return 0
    return port.device.draws


def all_drawn(world):
    return sum([drawn_at(port) for port in world.ports])


def all_energy(world):
    return sum([port.energy for port in world.ports])


def order_of_ports(world):
    # sorted leaves ports of the same rank as they stand, which is by number.
    return sorted(world.ports, key=lambda port: port.rank)
