"""The ranges that the calls' numbers are held to."""

RANGES = {
    "ports": (1, 48),
    "cap": (1, 10000),
    "bit": (0, 1),
    "supply amount": (1, 10000000),
    "rank": (0, 3),
    "class": (1, 4),
    "amount": (0, 100000),
    "time": (0, 1000000),
}

# The ranges of each call's numbers, by the call's place; begin, at place 0, has a check of its own.
NUMBERS = (
    (),
    ("supply", "bit"),
    ("bit",),
    ("port", "bit", "rank", "amount"),
    ("port", "class"),
    ("port",),
    (),
    ("port", "amount"),
    ("port", "amount"),
    ("port",),
    ("port",),
    ("port",),
    ("message",),
    ("message",),
    ("message",),
    (),
    ("time",),
    ("port",),
    ("port",),
    (),
    (),
    ("message",),
    (),
)


def is_within(number, ends):
    return ends[0] <= number <= ends[1]


def ends_of(world, name):
    if name == "port":
        return (0, len(world.ports) - 1)
    if name == "supply":
        return (0, len(world.supplies) - 1)
    if name == "message":
        return (0, len(world.bag) - 1)
    return RANGES[name]


def are_in_range(world, place, numbers):
    return all([is_within(number, ends_of(world, name)) for number, name in zip(numbers, NUMBERS[place])])


def can_begin(numbers):
    amounts = numbers[3:]
    if not is_within(len(amounts), (1, 4)):
        return False
    if not all([is_within(amount, RANGES["supply amount"]) for amount in amounts]):
        return False
    return (is_within(numbers[0], RANGES["ports"]) and is_within(numbers[1], RANGES["cap"])
            and is_within(numbers[2], RANGES["bit"]))
