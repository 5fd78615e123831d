"""The bag: the messages under way, the oldest first; a message is a tuple of its numbers, its kind first."""

GRANT_MESSAGE = 0
TAKEN_MESSAGE = 1
WISH_MESSAGE = 2


def bag_is_full(world):
    return len(world.bag) >= world.cap


def put(world, message):
    if not bag_is_full(world):
        world.bag.append(message)
