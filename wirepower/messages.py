"""Messages that arrive: how a device or a port handles what is delivered out of the bag."""

from wirepower.bag import TAKEN_MESSAGE, put


def is_for_device(port, message):
    device = port.device
    if device is None or port.on == 0:
        return False
    return device.session == message[2] and device.number <= message[3]


def is_for_port(port, message):
    return port.on == 1 and port.session == message[2]


def handle_grant(world, message):
    port = world.ports[message[1]]
    if is_for_device(port, message):
        device = port.device
        device.number = message[3]
        device.limit = message[4]
        device.draws = min(device.draws, device.limit)
        put(world, (TAKEN_MESSAGE, message[1], message[2], message[3]))


def handle_taken(world, message):
    port = world.ports[message[1]]
    if is_for_port(port, message):
        port.grants = [grant for grant in port.grants if grant[0] >= message[3]]


def handle_wish(world, message):
    port = world.ports[message[1]]
    if is_for_port(port, message) and port.wish_number < message[3]:
        port.wish_number = message[3]
        port.wish_amount = message[4]


# By the message's kind.
HANDLERS = (handle_grant, handle_taken, handle_wish)


def deliver(world, place):
    # Taken out first, so that what its handling puts finds room even where the bag was full.
    message = world.bag.pop(place)
    HANDLERS[message[0]](world, message)


def deliver_all(world):
    count = 0
    while len(world.bag) > 0:
        deliver(world, 0)
        count += 1
    return count
