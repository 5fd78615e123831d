"""The refusals that all calls share, their order, and that a refusal leaves all as it was."""

import random
import unittest

from tests.helper import (NAMES, again, begin, calm, clear, deliver, device, double, draw, everything, fault, look,
                          lose, peek, plug, port, power, power_now, run, settle, spare, state, supply, then, tick,
                          unplug, wish, wished, written)
from wirepower.switch import answers

FAR = 1000000000000000000
PORT = (0, 5)
MESSAGE = (0, 2)
AMOUNT = (0, 100000)
RANGES = {
    1: ((0, 2), (0, 1)),
    2: ((0, 1),),
    3: (PORT, (0, 1), (0, 3), AMOUNT),
    4: (PORT, (1, 4)),
    5: (PORT,),
    6: (),
    7: (PORT, AMOUNT),
    8: (PORT, AMOUNT),
    9: (PORT,),
    10: (PORT,),
    11: (PORT,),
    12: (MESSAGE,),
    13: (MESSAGE,),
    14: (MESSAGE,),
    15: (),
    16: ((0, 1000000),),
    17: (PORT,),
    18: (PORT,),
    19: (),
    20: (),
    21: (MESSAGE,),
    22: (),
}
# Six ports, three supplies and three messages, as the ranges have it.
RANGED = (begin(6, 10, 0, (5000, 6, 7)), plug(3, 1), settle(), wish(3, 1), again(3), wish(3, 2))
# Six ports and three supplies; a full bag; port 0 lit, 1 lit, 2 faulty, 3 not enabled, 4 with no device.
USED = (begin(6, 2, 0, (50000, 60000, 70000)), plug(0, 4), plug(1, 1), plug(2, 2), plug(3, 3), plug(5, 1), port(3, 0),
        port(1, 1, 2, 5000), settle(), *wished(1, 4500), settle(), lose(0), fault(2), draw(0, 400), tick(999999),
        wish(0, 50000), wish(1, 60000), supply(2, 0))
REFUSED = (
    (supply(2, 0), -2), (supply(0, 1), -2), (plug(0, 1), -2), (unplug(4), -2), (wish(4, 1), -2), (draw(4, 1), -2),
    (fault(4), -2), (clear(0), -2), (device(4), -2), (wish(3, 1), -3), (draw(2, 1), -3), (fault(3), -3), (again(3), -3),
    (again(4), -3), (wish(0, 1), -4), (again(0), -4), (double(0), -4), (double(1), -4), (supply(3, 1), -1),
    (port(0, 0, 4, 0), -1), (plug(4, 5), -1), (port(0, 0, 1, 100001), -1), (begin(0), -1), (begin(amounts=()), -1),
    (spare(2), -1), (supply(0, 2), -1), (deliver(2), -1), (deliver(-1), -1), (lose(2), -1), (lose(-1), -1),
    (double(2), -1), (double(-1), -1), (tick(1000001), -1), (tick(-1), -1), (look(6), -1), (device(6), -1),
    (peek(2), -1), (peek(-1), -1))


class Shared(unittest.TestCase):
    def test_no_world(self):
        for place, ranges in RANGES.items():
            for numbers in ([ends[0] for ends in ranges], [FAR for ends in ranges]):
                self.assertEqual(run((place, *numbers)), [[-9]], NAMES[place])

    def test_both_ends_of_each_range(self):
        for place, ranges in RANGES.items():
            for at, ends in enumerate(ranges):
                for number in ends:
                    numbers = [each[0] for each in ranges]
                    numbers[at] = number
                    answered = then(RANGED, (place, *numbers))[0]
                    self.assertNotIn(answered, ([-1], [-9]), (NAMES[place], numbers))

    def test_beyond_each_range(self):
        for place, ranges in RANGES.items():
            for at, ends in enumerate(ranges):
                for number in (ends[0] - 1, ends[1] + 1, FAR, -FAR):
                    numbers = [each[0] for each in ranges]
                    numbers[at] = number
                    answered = then(RANGED, (place, *numbers))[0]
                    self.assertEqual(answered, [-1], (NAMES[place], numbers))

    def test_no_world_goes_ahead_of_a_range_and_a_range_ahead_of_the_rest(self):
        self.assertEqual(run(draw(48, -1), begin(1), draw(0, -1), draw(0, 1)), [[-9], [0], [-1], [-2]])

    def test_no_world_until_begin_is_done(self):
        self.assertEqual(run(settle(), begin(0), settle(), begin(), spare(0)),
                         [[-9], [-1], [-9], [0], power(100000, 100000, 0, 0)])


    def test_the_place_in_the_bag_goes_by_what_the_bag_holds(self):
        for call in (deliver, lose, double, peek):
            self.assertEqual(then(RANGED[:3], call(0)), [[-1]], call)
            self.assertEqual(then(RANGED[:4], call(1), call(0)), [[-1], then(RANGED[:4], call(0))[0]], call)
            self.assertEqual(then(RANGED[:4], call(0))[0][0], 0, call)


class AsItWas(unittest.TestCase):
    def test_each_refusal_changes_nothing(self):
        shown = everything(6, 3)
        before = then(USED, *shown)
        for call, refusal in REFUSED:
            self.assertEqual(then(USED, call, *shown), [[refusal]] + before, call)

    def test_a_refused_tick_changes_nothing(self):
        late = (*USED, *[tick(1000000)] * 99)
        shown = everything(6, 3)
        self.assertEqual(then(late, tick(2), *shown, tick(1)), [[-2]] + then(late, *shown) + [[0, 100000000]])

    def test_refused_calls_between_change_no_answer(self):
        behind = (spare(1), settle(), draw(0, 31000), tick(7), port(3, 1, 1, 9), settle(), clear(2), settle(),
                  deliver(1), calm(), settle(), unplug(1), plug(4, 2), settle(), calm(), supply(0, 0), settle(),
                  *everything(6, 9), supply(1, 0), state())
        refused = [call for call, refusal in REFUSED]
        self.assertEqual(then(USED, *refused, *behind)[len(refused):], then(USED, *behind))


class TheList(unittest.TestCase):
    def test_is_not_changed_and_gives_the_same_again(self):
        behind = [call for call, refusal in REFUSED]
        calls = written((*USED, *behind, double(0), deliver(1), settle(), double(0), tick(5), *everything(6, 3),
                         lose(0), calm(), settle(), again(1), deliver(0), *everything(6, 3), begin(), settle()))
        copy = list(calls)
        first = answers(calls)
        self.assertEqual(calls, copy)
        self.assertEqual(answers(calls), first)
        self.assertEqual(calls, copy)
        self.assertTrue(all(type(number) is int for number in first))

    def test_its_form(self):
        calls = [6, 0, 0, 0, 5, 2, 10, 1, 7000, 7500, 0, 4, 2, 1, 2, 0, 6, 0, 0, 8, 2, 1, 9, 0, 5, 1, 0, 0]
        self.assertEqual(answers(calls), [1, -9, 1, 0, 1, 0, 5, 0, 14500, 7000, 7000, 0, 2, 0, 9, 1, -2])

    def test_its_form_with_messages_and_views(self):
        calls = [15, 0, 0, 0, 4, 1, 10, 0, 9000, 0, 4, 2, 0, 1, 0, 6, 0, 0, 7, 2, 0, 6000, 0, 14, 1, 0, 0, 12, 1, 1, 0,
                 13, 1, 0, 0, 6, 0, 0, 21, 1, 0, 0, 12, 1, 0, 0, 21, 1, 0, 0, 8, 2, 0, 9000, 0, 16, 1, 2, 0,
                 17, 1, 0, 0, 18, 1, 0, 0, 19, 0, 0, 20, 0, 0, 15, 0, 0, 22, 0, 0, 21, 1, 0, 0]
        self.assertEqual(answers(calls), [
            1, -9, 1, 0, 1, 0, 5, 0, 9000, 9000, 4000, 0, 2, 0, 1, 1, 0, 2, 0, 1,
            1, 0, 5, 0, 9000, 9000, 6000, 0, 6, 0, 0, 0, 1, 1, 6000, 2, 0, 1, 5, 0, 1, 0, 1, 1, 2, 0, 6000, 2, 0, 2,
            17, 0, 1, 0, 30000, 0, 1, 1, 1, 6000, 1, 6000, 12000, 2, 0, 4000, 1, 6000, 7, 0, 1, 1, 1, 6000, 6000, 1,
            5, 0, 9000, 9000, 6000, 6000, 4, 0, 1, 0, 6000, 2, 0, 1, 5, 0, 2, 0, 12000, 18000, 1, -1])

    def test_nothing_is_kept_from_one_list_to_the_next(self):
        self.assertEqual(run(begin(), plug(0, 1)), [[0], [0]])
        self.assertEqual(run(plug(0, 1)), [[-9]])
        self.assertEqual(run(begin(), plug(0, 1)), [[0], [0]])

    def test_four_hundred_calls(self):
        answered = run(begin(48, 10000, 0, (10000000,)), plug(0, 1), settle(), *[wish(0, 1)] * 395, calm(), state())
        self.assertEqual((len(answered), answered[-3:]), (400, [[0, 395], [0, 395], [0, 0, 0, 0, 0]]))


def some_call(chance):
    p = chance.randrange(6)
    k = chance.randrange(4)
    return chance.choice((
        supply(chance.randrange(3), chance.choice((0, 1, 1))), spare(chance.choice((0, 0, 1))),
        port(p, chance.choice((0, 1, 1, 1)), chance.randrange(4), chance.randrange(40000)),
        plug(p, chance.randrange(1, 5)), plug(p, chance.randrange(1, 5)), plug(p, chance.randrange(1, 5)),
        unplug(p), fault(p), clear(p), clear(p), again(p), settle(), settle(), settle(), settle(), settle(),
        wish(p, chance.randrange(40000)), wish(p, chance.randrange(40000)), wish(p, chance.randrange(40000)),
        draw(p, chance.randrange(40000)), draw(p, 100000), draw(p, 100000), deliver(k), deliver(k), deliver(k),
        deliver(0), deliver(0), deliver(0), lose(k), double(k), double(k), tick(chance.randrange(9))))


def some_line(chance):
    """Calls with a look at power and state behind each of them."""
    cap = chance.randrange(1, 30)
    calls = [begin(6, cap, chance.randrange(2), [chance.randrange(1, 60000) for i in range(3)])]
    while len(calls) < 397:
        calls += [some_call(chance), power_now(), state()]
    return cap, calls


class NeverTooMuch(unittest.TestCase):
    def test_drawn_is_within_reserved_and_reserved_within_what_can_be_given(self):
        for seed in range(80):
            cap, calls = some_line(random.Random(seed))
            answered = then(calls[:1], *calls[1:])
            energy, could = 0, 0
            for at in range(0, len(answered), 3):
                can, may, reserved, drawn = answered[at + 1][1:]
                messages = answered[at + 2][2]
                self.assertTrue(drawn <= reserved <= can and may <= can and messages <= cap, (seed, calls[at + 1]))
                self.assertTrue(energy <= answered[at + 2][3] <= answered[at + 2][4], (seed, calls[at + 1]))
                self.assertLessEqual(could, answered[at + 2][4], (seed, calls[at + 1]))
                energy, could = answered[at + 2][3:]


if __name__ == "__main__":
    unittest.main()
