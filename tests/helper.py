"""What the tests share: the calls as rows, a run of them, and a look inside the world."""

from wirepower.calls import Line, answer
from wirepower.switch import answers

NAMES = ("begin", "supply", "spare", "port", "plug", "unplug", "settle", "wish", "draw", "fault", "clear", "again")


def begin(ports=4, cap=100, spare=0, amounts=(100000,)):
    return (0, ports, cap, spare) + tuple(amounts)


def supply(i, on):
    return (1, i, on)


def spare(x):
    return (2, x)


def port(p, enabled=1, rank=0, most=30000):
    return (3, p, enabled, rank, most)


def plug(p, clazz):
    return (4, p, clazz)


def unplug(p):
    return (5, p)


def settle():
    return (6,)


def wish(p, amount):
    return (7, p, amount)


def draw(p, amount):
    return (8, p, amount)


def fault(p):
    return (9, p)


def clear(p):
    return (10, p)


def again(p):
    return (11, p)


def written(rows):
    calls = []
    for row in rows:
        calls += [row[0], len(row) - 1] + list(row[1:]) + [0]
    return calls


def parted(answered):
    rows = []
    at = 0
    while at < len(answered):
        rows.append(answered[at + 1:at + 1 + answered[at]])
        at += 1 + answered[at]
    return rows


def run(*rows):
    return parted(answers(written(rows)))


def last(*rows):
    return run(*rows)[-1]


def power(can, may, reserved, drawn):
    return [0, can, may, reserved, drawn]


def do(line, *rows):
    return [answer(line, row[0], list(row[1:])) for row in rows]


def line_after(*rows):
    line = Line()
    for row, answered in zip(rows, do(line, *rows)):
        if answered[0] != 0:
            raise AssertionError(f"{row} answered {answered}")
    return line


def inside(thing):
    """All that an object holds, as plain values that can be compared."""
    if isinstance(thing, (list, tuple)):
        return [inside(part) for part in thing]
    if hasattr(thing, "__dict__"):
        return {name: inside(part) for name, part in vars(thing).items()}
    return thing
