"""The switch as it is called from outside: a list of calls in, a list of answers out."""

from wirepower.calls import Line, answer


def answers(calls):
    line = Line()
    answered = []
    at = 0
    while at < len(calls):
        count = calls[at + 1]
        row = answer(line, calls[at], calls[at + 2:at + 2 + count])
        answered.append(len(row))
        answered.extend(row)
        # Behind the numbers stands how many lists the call has, which is always 0.
        at += 3 + count
    return answered
