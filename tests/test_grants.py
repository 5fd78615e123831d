"""Settling with wishes that have come to their ports: grants given, told, told again, lost and gone."""

import unittest

from tests.helper import (again, bag_of, begin, calm, clear, deliver, device, draw, fault, lit, look, lose, peek, plan,
                          plug, port, power, power_now, seen, settle, spare, state, supply, then, tick, unplug, wish,
                          wished)

# One port of class 3 that is lit, beside one with no device.
LIT = (begin(2), plug(1, 3), settle())
BOTH = (plug(0, 3), plug(1, 3), settle())


def supplied(amount, ports=2):
    return begin(ports, 9, 0, (amount,))


class More(unittest.TestCase):
    def test_is_given_and_told(self):
        answered = then((*LIT, *wished(1, 25000)), settle(), look(1), peek(0), state(), draw(1, 25000), deliver(0),
                        draw(1, 25000), peek(0), deliver(0), look(1))
        self.assertEqual(answered, [
            power(100000, 100000, 25000, 0), lit([(0, 15400), (1, 25000)], (1, 25000)), [0, 0, 1, 1, 1, 25000],
            bag_of(1), [0, 15400], [0, 1], [0, 25000], [0, 1, 1, 1, 1], [0, 0], lit([(1, 25000)], (1, 25000))])

    def test_goes_to_the_wish_the_most_or_what_is_left(self):
        for amount, most, left, given in ((50000, 30000, 90000, 30000), (20000, 30000, 90000, 20000),
                                          (50000, 30000, 20000, 20000), (15401, 30000, 90000, 15401),
                                          (50000, 15401, 90000, 15401), (50000, 30000, 15401, 15401)):
            ready = (supplied(left, 1), port(0, 1, 0, most), plug(0, 3), settle(), *wished(0, amount))
            self.assertEqual(then(ready, settle(), state()), [power(left, left, given, 0), bag_of(1)])

    def test_is_nothing_where_wish_or_most_are_not_above_the_base_or_nothing_is_left(self):
        for amount, most, left in ((15400, 30000, 90000), (3, 30000, 90000), (50000, 15400, 90000), (50000, 0, 90000),
                                   (50000, 30000, 15400)):
            ready = (supplied(left, 1), port(0, 1, 0, most), plug(0, 3), settle(), *wished(0, amount))
            self.assertEqual(then(ready, settle(), state()), [power(left, left, 15400, 0), bag_of(0)])

    def test_goes_by_the_order_behind_all_bases(self):
        ready = (supplied(20000, 3), port(0, 1, 1), plug(0, 1), plug(1, 1), plug(2, 1), settle(), *wished(0, 9000),
                 *wished(1, 9000), *wished(2, 9000))
        answered = then(ready, settle(), peek(0), peek(1), state(), look(0))
        self.assertEqual(answered, [power(20000, 20000, 20000, 0), [0, 0, 1, 1, 1, 9000], [0, 0, 2, 1, 1, 7000],
                                    bag_of(2), lit([(0, 4000)], (1, 9000), rank=1)])

    def test_of_a_higher_most_comes_with_the_next_settle(self):
        ready = (*LIT, *wished(1, 100000), settle(), calm(), port(1, 1, 0, 100000), power_now())
        self.assertEqual(then(ready, settle(), look(1)),
                         [power(100000, 100000, 100000, 0),
                          lit([(1, 30000), (2, 100000)], (1, 100000), most=100000)])

    def test_waits_while_older_grants_of_others_hold_the_power(self):
        for left, reserved, second in ((45000, 45000, [(0, 15400), (1, 20000)]), (44999, 40400, [(0, 15400)])):
            ready = (supplied(left), *BOTH, *wished(0, 25000), settle(), lose(0), *wished(0, 0), *wished(1, 20000))
            answered = then(ready, settle(), look(1), calm(), settle(), look(1))
            self.assertEqual(answered[:2], [power(left, left, reserved, 0), lit(second, (1, 20000))])
            self.assertEqual(answered[3][3], 35400)

    def test_that_waits_tells_the_latest_where_there_are_two_grants(self):
        for left, told in ((45000, (2, 20000)), (44999, (1, 16000))):
            ready = (supplied(left), *BOTH, *wished(1, 16000), settle(), lose(0), *wished(0, 25000), settle(), lose(0),
                     lose(0), *wished(0, 0), *wished(1, 20000), settle())
            self.assertEqual(then(ready, peek(0), peek(1), peek(2), state()),
                             [[0, 0, 0, 1, 2, 15400], [0, 0, 0, 1, 2, 15400], [0, 0, 1, 1, *told], bag_of(3)])

    def test_does_not_wait_for_older_grants_of_its_own(self):
        ready = (supplied(25000, 1), plug(0, 3), settle(), *wished(0, 25000), settle(), lose(0), *wished(0, 0),
                 settle(), lose(0), lose(0), *wished(0, 20000))
        self.assertEqual(then(ready, settle(), look(0), state()), [
            power(25000, 25000, 25000, 0),
            lit([(0, 15400), (1, 25000), (2, 15400), (3, 20000)], (3, 20000)), bag_of(1)])

    def test_is_not_given_above_what_may_be_given_by_its_own_older_grants(self):
        ready = (begin(1, 9, 0, (20000, 20000)), plug(0, 3), settle(), *wished(0, 25000), settle(), lose(0),
                 *wished(0, 0), settle(), lose(0), lose(0), *wished(0, 18000), spare(1))
        self.assertEqual(then(ready, settle(), peek(0), state()),
                         [power(40000, 20000, 25000, 0), [0, 0, 0, 1, 2, 15400], bag_of(1)])


class Less(unittest.TestCase):
    READY = (*LIT, *wished(1, 25000), settle(), wish(1, 20000), deliver(1))

    def test_is_given_and_told_twice(self):
        answered = then(self.READY, settle(), look(1), peek(0), peek(1), peek(2), state())
        self.assertEqual(answered, [
            power(100000, 100000, 25000, 0), lit([(0, 15400), (1, 25000), (2, 20000)], (2, 20000)),
            [0, 0, 1, 1, 1, 25000], [0, 0, 1, 1, 2, 20000], [0, 0, 1, 1, 2, 20000], bag_of(3)])

    def test_frees_power_only_when_it_is_taken(self):
        answered = then((*self.READY, settle()), deliver(2), power_now(), deliver(2), power_now(), look(1), deliver(0),
                        deliver(0), power_now())
        self.assertEqual(answered, [[0, 3], power(100000, 100000, 25000, 0), [0, 2], power(100000, 100000, 20000, 0),
                                    lit([(2, 20000)], (2, 20000)), [0, 1], [0, 1], power(100000, 100000, 20000, 0)])

    def test_lowers_what_the_device_draws(self):
        ready = (*LIT, *wished(1, 25000), settle(), calm(), draw(1, 24000), *wished(1, 20000), settle())
        self.assertEqual(then(ready, power_now(), deliver(0), power_now(), device(1)), [
            power(100000, 100000, 25000, 24000), [0, 2], power(100000, 100000, 25000, 20000),
            [0, 3, 1, 2, 20000, 20000, 2]])

    def test_goes_ahead_of_more(self):
        ready = (supplied(20000), plug(0, 1), plug(1, 1), settle(), *wished(1, 16000), settle(), calm(),
                 *wished(0, 8000))
        answered = then(ready, settle(), look(0), look(1), state(), calm(), settle(), look(0), look(1))
        self.assertEqual(answered, [
            power(20000, 20000, 20000, 0), lit([(0, 4000)], (1, 8000)), lit([(1, 16000), (2, 12000)], (1, 16000)),
            bag_of(2), [0, 4], power(20000, 20000, 20000, 0), lit([(0, 4000), (1, 8000)], (1, 8000)),
            lit([(2, 12000)], (1, 16000))])

    def test_comes_of_a_lower_most_and_of_less_power(self):
        ready = (begin(1, 9, 0, (20000, 8000)), plug(0, 3), settle(), *wished(0, 25000), settle(), calm())
        for changed, given in ((port(0, 1, 0, 16000), 16000), (port(0, 1, 0, 0), 15400), (spare(1), None)):
            answered = then((*ready, changed), settle(), look(0))
            if given is None:
                self.assertEqual(answered, [power(28000, 8000, 0, 0), seen(session=1)])
            else:
                self.assertEqual(answered[0], power(28000, 28000, 25000, 0))
                self.assertEqual(answered[1][-4:], [1, 25000, 2, given])


class ToldAgain(unittest.TestCase):
    def test_as_long_as_there_are_two_grants(self):
        ready = (begin(2), plug(0, 1), plug(1, 3), settle(), *wished(1, 25000), settle())
        told = [0, 0, 1, 1, 1, 25000]
        answered = then(ready, state(), settle(), settle(), peek(0), peek(1), peek(2), state(), look(1), calm(),
                        look(1), settle(), state())
        self.assertEqual(answered, [
            bag_of(1), power(100000, 100000, 29000, 0), power(100000, 100000, 29000, 0), told, told, told, bag_of(3),
            lit([(0, 15400), (1, 25000)], (1, 25000)), [0, 6], lit([(1, 25000)], (1, 25000)),
            power(100000, 100000, 29000, 0), bag_of(0)])

    def test_more_is_told_once(self):
        ready = (*LIT, *wished(1, 20000), settle(), lose(0), *wished(1, 25000))
        self.assertEqual(then(ready, settle(), peek(0), state()),
                         [power(100000, 100000, 25000, 0), [0, 0, 1, 1, 2, 25000], bag_of(1)])

    def test_a_lost_grant_comes_in_the_end(self):
        ready = (*LIT, *wished(1, 25000), settle(), lose(0))
        self.assertEqual(then(ready, draw(1, 25000), settle(), calm(), draw(1, 25000), look(1)), [
            [0, 15400], power(100000, 100000, 25000, 15400), [0, 2], [0, 25000], lit([(1, 25000)], (1, 25000))])

    def test_a_lost_taken_comes_in_the_end(self):
        ready = (*LIT, *wished(1, 25000), settle(), deliver(0), lose(0))
        self.assertEqual(then(ready, look(1), settle(), calm(), look(1)), [
            lit([(0, 15400), (1, 25000)], (1, 25000)), power(100000, 100000, 25000, 0), [0, 2],
            lit([(1, 25000)], (1, 25000))])

    def test_again_tells_the_latest_of_several(self):
        ready = (*LIT, *wished(1, 25000), settle(), lose(0), *wished(1, 0), settle(), lose(0), lose(0), again(1))
        self.assertEqual(then(ready, peek(0), state()), [[0, 0, 1, 1, 2, 15400], bag_of(1)])


class EightGrants(unittest.TestCase):
    FULL = [(0, 15400)] + [(step, 16000 + step) for step in range(1, 8)]

    def ready(self, count):
        rows = LIT
        for step in range(1, count):
            rows += (*wished(1, 16000 + step), settle(), lose(0))
        return rows

    def test_are_reached(self):
        self.assertEqual(then(self.ready(7), look(1)), [lit(self.FULL[:7], (6, 16006))])
        self.assertEqual(then(self.ready(8), look(1), state()), [lit(self.FULL, (7, 16007)), bag_of(0)])

    def test_more_is_only_told_then(self):
        answered = then((*self.ready(8), *wished(1, 20000)), plan(), settle(), look(1), peek(0), state())
        self.assertEqual(answered, [[0, 1, 1, 20000], power(100000, 100000, 16007, 0), lit(self.FULL, (8, 20000)),
                                    [0, 0, 1, 1, 7, 16007], bag_of(1)])

    def test_less_is_only_told_then(self):
        answered = then((*self.ready(8), *wished(1, 0)), settle(), look(1), peek(0), peek(1), state())
        self.assertEqual(answered, [power(100000, 100000, 16007, 0), lit(self.FULL, (8, 0)), [0, 0, 1, 1, 7, 16007],
                                    [0, 0, 1, 1, 7, 16007], bag_of(2)])

    def test_once_taken_more_is_given_again(self):
        answered = then((*self.ready(8), *wished(1, 20000), settle(), calm()), look(1), settle(), look(1))
        self.assertEqual(answered, [lit([(7, 16007)], (8, 20000)), power(100000, 100000, 20000, 0),
                                    lit([(7, 16007), (8, 20000)], (8, 20000))])


class LeftOff(unittest.TestCase):
    def test_a_planned_port_while_older_grants_hold_the_power(self):
        for left, reserved, second in ((40400, 40400, lit([(0, 15400)], (0, 15400))), (40399, 25000, seen())):
            ready = (supplied(left), plug(0, 3), settle(), *wished(0, 25000), settle(), lose(0), *wished(0, 0),
                     plug(1, 3))
            answered = then(ready, plan(), settle(), look(1), plan(), calm(), settle(), look(1))
            self.assertEqual(answered, [
                [0, 2, 0, 15400, 1, 15400], power(left, left, reserved, 0), second, [0, 2, 0, 15400, 1, 15400], [0, 4],
                power(left, left, 30800, 0), lit([(0, 15400)], (0, 15400))])

    def test_its_device_can_ask_and_draw_nothing(self):
        ready = (supplied(40399), plug(0, 3), settle(), *wished(0, 25000), settle(), lose(0), *wished(0, 0),
                 plug(1, 3), settle())
        self.assertEqual(then(ready, wish(1, 1), draw(1, 1), fault(1), again(1)), [[-3]] * 4)


class FullBag(unittest.TestCase):
    READY = (begin(2, 2), *BOTH, *wished(0, 20000), *wished(1, 21000), wish(0, 20000))

    def test_loses_what_is_put(self):
        answered = then(self.READY, settle(), look(0), look(1), peek(0), peek(1), peek(2), state(), again(1))
        self.assertEqual(answered, [
            power(100000, 100000, 41000, 0), lit([(0, 15400), (1, 20000)], (1, 20000)),
            lit([(0, 15400), (1, 21000)], (1, 21000)), [0, 2, 0, 1, 2, 20000], [0, 0, 0, 1, 1, 20000], [-1], bag_of(2),
            [-4]])

    def test_what_was_lost_is_told_again(self):
        self.assertEqual(then((*self.READY, settle()), calm(), settle(), peek(0), state()), [
            [0, 3], power(100000, 100000, 41000, 0), [0, 0, 1, 1, 1, 21000], bag_of(1)])

    def test_less_is_told_once_where_there_is_room_for_one(self):
        ready = (begin(1, 1), plug(0, 3), settle(), *wished(0, 20000), settle(), lose(0), *wished(0, 0), settle())
        self.assertEqual(then(ready, peek(0), state(), look(0)), [
            [0, 0, 0, 1, 2, 15400], bag_of(1), lit([(0, 15400), (1, 20000), (2, 15400)], (2, 0))])


class Cut(unittest.TestCase):
    READY = (begin(1), port(0, 1, 2, 26000), plug(0, 3), settle(), *wished(0, 25000), settle(), deliver(0),
             draw(0, 21000), tick(2), wish(0, 1))

    def test_what_is_there_before(self):
        self.assertEqual(then(self.READY, look(0), device(0)), [
            lit([(0, 15400), (1, 25000)], (1, 25000), energy=42000, rank=2, most=26000),
            [0, 3, 1, 1, 25000, 21000, 2]])

    def test_what_goes_and_what_stays(self):
        for cuts, shown in (((port(0, 0, 2, 26000),), {"enabled": 0}), ((fault(0),), {"faulty": 1}),
                            ((supply(0, 0),), {}), ((spare(1), settle()), {}), ((unplug(0),), {})):
            answered = then((*self.READY, *cuts), look(0), device(0), peek(0), peek(1), state(), power_now())
            self.assertEqual(answered[0], seen(rank=2, most=26000, session=1, energy=42000, **shown), cuts)
            self.assertEqual(answered[1], [-2] if cuts == (unplug(0),) else [0, 3, 0, 0, 0, 0, 0], cuts)
            self.assertEqual(answered[2:5], [[0, 1, 0, 1, 1], [0, 2, 0, 1, 2, 1], [0, 2, 2, 42000, 200000]], cuts)
            self.assertEqual(answered[5][3:], [0, 0], cuts)

    def test_lit_again_it_goes_by_nothing_of_before(self):
        ready = (*self.READY, again(0), fault(0), clear(0), settle())
        new = [lit([(0, 15400)], (0, 15400), session=2, energy=42000, rank=2, most=26000), [0, 3, 2, 0, 15400, 0, 0]]
        self.assertEqual(then(ready, look(0), device(0), calm(), look(0), device(0)), new + [[0, 3]] + new)

    def test_supply_goes_by_the_greatest_grant_and_not_by_the_latest(self):
        ready = (begin(1, 9, 0, (20000, 20000)), plug(0, 3), settle(), *wished(0, 25000), settle(), lose(0),
                 *wished(0, 0), settle())
        self.assertEqual(then(ready, supply(1, 0), look(0)), [power(20000, 20000, 0, 0), seen(session=1)])
        self.assertEqual(then((*ready, calm()), supply(1, 0), power_now()), [power(20000, 20000, 15400, 0)] * 2)


if __name__ == "__main__":
    unittest.main()
