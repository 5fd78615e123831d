"""What the tests share: the calls as rows, a run of them through answers, and answers as they are told."""

from wirepower.switch import answers

NAMES = ("begin", "supply", "spare", "port", "plug", "unplug", "settle", "wish", "draw", "fault", "clear", "again",
         "deliver", "lose", "double", "calm", "tick", "look", "device", "power", "plan", "peek", "state")


def begin(ports=4, cap=100, spare=0, amounts=(100000,)):
    return (0, ports, cap, spare) + tuple(amounts)


def supply(i, on):
    return (1, i, on)


def spare(x):
    return (2, x)


def port(p, enabled=1, rank=0, most=30000):
    return (3, p, enabled, rank, most)


def plug(p, clazz):
    return (4, p, clazz)


def unplug(p):
    return (5, p)


def settle():
    return (6,)


def wish(p, amount):
    return (7, p, amount)


def draw(p, amount):
    return (8, p, amount)


def fault(p):
    return (9, p)


def clear(p):
    return (10, p)


def again(p):
    return (11, p)


def deliver(k):
    return (12, k)


def lose(k):
    return (13, k)


def double(k):
    return (14, k)


def calm():
    return (15,)


def tick(t):
    return (16, t)


def look(p):
    return (17, p)


def device(p):
    return (18, p)


def power_now():
    return (19,)


def plan():
    return (20,)


def peek(k):
    return (21, k)


def state():
    return (22,)


def wished(p, amount):
    """A wish that comes to its port; the bag is empty before and behind."""
    return (wish(p, amount), deliver(0))


def everything(ports, messages):
    """The calls that show all of a world that has so many ports, and at most so many messages."""
    calls = [power_now(), plan(), state()]
    for p in range(ports):
        calls += [look(p), device(p)]
    return calls + [peek(k) for k in range(messages)]


def written(rows):
    calls = []
    for row in rows:
        calls += [row[0], len(row) - 1] + list(row[1:]) + [0]
    return calls


def parted(answered):
    rows = []
    at = 0
    while at < len(answered):
        rows.append(answered[at + 1:at + 1 + answered[at]])
        at += 1 + answered[at]
    return rows


def run(*rows):
    return parted(answers(written(rows)))


def last(*rows):
    return run(*rows)[-1]


def then(rows, *calls):
    """What the calls answer behind the rows, none of which may be refused."""
    answered = run(*rows, *calls)
    for row, answer in zip(rows, answered):
        if answer[0] != 0:
            raise AssertionError(f"{row} answered {answer}")
    return answered[len(rows):]


def power(can, may, reserved, drawn):
    return [0, can, may, reserved, drawn]


def seen(enabled=1, rank=0, most=30000, faulty=0, on=0, session=0, number=0, reserved=0, wish=(0, 0), energy=0,
         grants=()):
    """What look answers."""
    answer = [0, enabled, rank, most, faulty, on, session, number, reserved, wish[0], wish[1], energy, len(grants)]
    for grant in grants:
        answer += list(grant)
    return answer


def lit(grants, wish, session=1, **others):
    """What look answers of a port that is on."""
    return seen(on=1, session=session, number=grants[-1][0], reserved=max(grant[1] for grant in grants), wish=wish,
                grants=grants, **others)


def bag_of(count):
    """What state answers as long as no time has passed."""
    return [0, 0, count, 0, 0]
