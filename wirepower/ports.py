"""What happens to a port: it is cut, lit, tells its latest grant, is given an amount."""

from wirepower.bag import GRANT_MESSAGE, WISH_MESSAGE, put
from wirepower.world import base_of

MOST_GRANTS = 8


def restart_device(device, session, limit):
    device.session = session
    device.number = 0
    device.limit = limit
    device.draws = 0
    device.asked = 0


def cut(port):
    port.on = 0
    port.grants = []
    port.number = 0
    port.wish_number = 0
    port.wish_amount = 0
    if port.device is not None:
        restart_device(port.device, 0, 0)


def light(port):
    base = base_of(port.device)
    port.on = 1
    port.session += 1
    port.number = 0
    port.grants = [(0, base)]
    port.wish_number = 0
    port.wish_amount = base
    restart_device(port.device, port.session, base)


def latest_amount(port):
    return port.grants[-1][1]


def tell(world, port):
    put(world, (GRANT_MESSAGE, port.place, port.session, port.number, latest_amount(port)))


def give(world, port, amount):
    if len(port.grants) < MOST_GRANTS:
        port.number += 1
        port.grants.append((port.number, amount))
    tell(world, port)


def ask(world, port, amount):
    device = port.device
    device.asked += 1
    put(world, (WISH_MESSAGE, port.place, device.session, device.asked, amount))
