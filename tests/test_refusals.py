"""The refusals that all calls share, their order, and that a refusal leaves all as it was."""

import random
import unittest

from tests.helper import (NAMES, again, begin, clear, do, draw, fault, inside, last, line_after, plug, port, power,
                          run, settle, spare, supply, unplug, wish, written)
from wirepower.switch import answers

FAR = 1000000000000000000
PORT = (0, 5)
AMOUNT = (0, 100000)
RANGES = {
    1: ((0, 2), (0, 1)),
    2: ((0, 1),),
    3: (PORT, (0, 1), (0, 3), AMOUNT),
    4: (PORT, (1, 4)),
    5: (PORT,),
    6: (),
    7: (PORT, AMOUNT),
    8: (PORT, AMOUNT),
    9: (PORT,),
    10: (PORT,),
    11: (PORT,),
}
# Six ports and three supplies; a full bag; port 0 lit, 1 lit, 2 faulty, 3 not enabled, 4 with no device.
USED = (begin(6, 2, 0, (50000, 60000, 70000)), plug(0, 4), plug(1, 1), plug(2, 2), plug(3, 3), plug(5, 1), port(3, 0),
        port(1, 1, 2, 500), settle(), fault(2), draw(0, 400), wish(0, 50000), wish(1, 60000), supply(2, 0))
REFUSED = (
    (supply(2, 0), -2), (supply(0, 1), -2), (plug(0, 1), -2), (unplug(4), -2), (wish(4, 1), -2), (draw(4, 1), -2),
    (fault(4), -2), (clear(0), -2), (wish(3, 1), -3), (draw(2, 1), -3), (fault(3), -3), (again(3), -3),
    (again(4), -3), (wish(0, 1), -4), (again(0), -4), (supply(3, 1), -1), (port(0, 0, 4, 0), -1), (plug(4, 5), -1),
    (port(0, 0, 1, 100001), -1), (begin(0), -1), (begin(amounts=()), -1), (spare(2), -1), (supply(0, 2), -1))


class Shared(unittest.TestCase):
    def test_no_world(self):
        for place, ranges in RANGES.items():
            for numbers in ([ends[0] for ends in ranges], [FAR for ends in ranges]):
                self.assertEqual(run((place, *numbers)), [[-9]], NAMES[place])

    def test_both_ends_of_each_range(self):
        for place, ranges in RANGES.items():
            for at, ends in enumerate(ranges):
                for number in ends:
                    numbers = [each[0] for each in ranges]
                    numbers[at] = number
                    answered = last(begin(6, 10, 0, (5, 6, 7)), (place, *numbers))
                    self.assertNotIn(answered, ([-1], [-9]), (NAMES[place], numbers))

    def test_beyond_each_range(self):
        for place, ranges in RANGES.items():
            for at, ends in enumerate(ranges):
                for number in (ends[0] - 1, ends[1] + 1, FAR, -FAR):
                    numbers = [each[0] for each in ranges]
                    numbers[at] = number
                    answered = last(begin(6, 10, 0, (5, 6, 7)), (place, *numbers))
                    self.assertEqual(answered, [-1], (NAMES[place], numbers))

    def test_no_world_goes_ahead_of_a_range_and_a_range_ahead_of_the_rest(self):
        self.assertEqual(run(draw(48, -1), begin(1), draw(0, -1), draw(0, 1)), [[-9], [0], [-1], [-2]])

    def test_no_world_until_begin_is_done(self):
        self.assertEqual(run(settle(), begin(0), settle(), begin(), spare(0)),
                         [[-9], [-1], [-9], [0], power(100000, 100000, 0, 0)])


class AsItWas(unittest.TestCase):
    def test_each_refusal_changes_nothing(self):
        for call, refusal in REFUSED:
            line = line_after(*USED)
            before = inside(line)
            self.assertEqual(do(line, call), [[refusal]], call)
            self.assertEqual(inside(line), before, call)

    def test_refused_calls_between_change_no_answer(self):
        behind = (spare(1), settle(), draw(0, 31000), port(3, 1, 1, 9), settle(), clear(2), settle(), unplug(1),
                  plug(4, 2), settle(), supply(0, 0), settle(), supply(1, 0))
        refused = [call for call, refusal in REFUSED]
        self.assertEqual(run(*USED, *refused, *behind)[-len(behind):], run(*USED, *behind)[-len(behind):])


class TheList(unittest.TestCase):
    def test_is_not_changed_and_gives_the_same_again(self):
        behind = [call for call, refusal in REFUSED]
        calls = written((*USED, *behind, settle(), begin(), settle()))
        copy = list(calls)
        first = answers(calls)
        self.assertEqual(calls, copy)
        self.assertEqual(answers(calls), first)
        self.assertEqual(calls, copy)
        self.assertTrue(all(type(number) is int for number in first))

    def test_its_form(self):
        calls = [6, 0, 0, 0, 5, 2, 10, 1, 7000, 7500, 0, 4, 2, 1, 2, 0, 6, 0, 0, 8, 2, 1, 9, 0, 5, 1, 0, 0]
        self.assertEqual(answers(calls), [1, -9, 1, 0, 1, 0, 5, 0, 14500, 7000, 7000, 0, 2, 0, 9, 1, -2])

    def test_nothing_is_kept_from_one_list_to_the_next(self):
        self.assertEqual(run(begin(), plug(0, 1)), [[0], [0]])
        self.assertEqual(run(plug(0, 1)), [[-9]])
        self.assertEqual(run(begin(), plug(0, 1)), [[0], [0]])

    def test_four_hundred_calls(self):
        answered = run(begin(48, 10000, 0, (10000000,)), plug(0, 1), settle(), *[wish(0, 1)] * 397)
        self.assertEqual((len(answered), answered[-1]), (400, [0, 397]))


def some_call(chance):
    p = chance.randrange(6)
    return chance.choice((
        supply(chance.randrange(3), chance.randrange(2)), spare(chance.randrange(2)),
        port(p, chance.choice((0, 1, 1, 1)), chance.randrange(4), chance.randrange(40000)),
        plug(p, chance.randrange(1, 5)), plug(p, chance.randrange(1, 5)), unplug(p), settle(), settle(), settle(),
        wish(p, chance.randrange(40000)), draw(p, chance.randrange(40000)), draw(p, 100000), fault(p), clear(p),
        again(p)))


class NeverTooMuch(unittest.TestCase):
    def test_drawn_is_within_reserved_and_reserved_within_what_can_be_given(self):
        for seed in range(60):
            chance = random.Random(seed)
            line = line_after(begin(6, 20, seed % 2, [chance.randrange(1, 60000) for i in range(3)]))
            for step in range(150):
                call = some_call(chance)
                answered = do(line, call)[0]
                for each in line.world.ports:
                    if each.on and chance.randrange(3) == 0:
                        each.wish_amount = chance.randrange(40000)
                if len(answered) == 5:
                    self.assertLessEqual(answered[4], answered[3], (seed, step, call))
                    self.assertLessEqual(answered[3], answered[1], (seed, step, call))
                    self.assertLessEqual(answered[2], answered[1], (seed, step, call))


if __name__ == "__main__":
    unittest.main()
