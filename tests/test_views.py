"""Time, and the calls that only show: tick, look, device, power, plan, state."""

import unittest

from tests.helper import (again, bag_of, begin, calm, clear, deliver, device, draw, everything, fault, lit, look, lose,
                          plan, plug, port, power, power_now, seen, settle, spare, state, supply, then, tick, unplug,
                          wish, wished)

# Ports 0 and 2 draw, port 1 is lit and draws nothing, port 3 has a device and is off, port 4 has none.
DRAWING = (begin(5, 9, 0, (50000, 10000)), plug(0, 3), plug(1, 1), plug(2, 2), plug(3, 1), port(3, 0), settle(),
           draw(0, 15000), draw(2, 30))


def energies(answered):
    return [answer[11] for answer in answered]


class Tick(unittest.TestCase):
    def test_adds_up(self):
        self.assertEqual(then((begin(1, 9, 0, (7,)),), tick(3), tick(5), tick(1000000), state()),
                         [[0, 3], [0, 8], [0, 1000008], [0, 1000008, 0, 0, 7000056]])

    def test_no_time_at_all(self):
        shown = everything(5, 1)
        answered = then(DRAWING, *shown, tick(0), *shown)
        self.assertEqual(answered[len(shown)], [0, 0])
        self.assertEqual(answered[:len(shown)], answered[len(shown) + 1:])

    def test_both_ends_of_its_range(self):
        self.assertEqual(then((begin(),), tick(-1), tick(0), tick(1000000), tick(1000001), state()),
                         [[-1], [0, 0], [0, 1000000], [-1], [0, 1000000, 0, 0, 100000000000]])

    def test_to_the_last_moment_and_no_further(self):
        ready = (*DRAWING, *[tick(1000000)] * 99, tick(999999))
        answered = then(ready, tick(2), state(), tick(1), state(), tick(1), tick(0), tick(1000000), tick(1000001),
                        state(), look(0))
        now = 100000000
        before = [0, now - 1, 0, (now - 1) * 15030, (now - 1) * 60000]
        behind = [0, now, 0, now * 15030, now * 60000]
        self.assertEqual(answered, [[-2], before, [0, now], behind, [-2], [0, now], [-2], [-1], behind,
                                    lit([(0, 15400)], (0, 15400), energy=now * 15000)])

    def test_a_port_gets_energy_by_what_is_drawn_there(self):
        answered = then((*DRAWING, tick(10), draw(2, 0), draw(1, 1), tick(4)), *[look(p) for p in range(5)], state())
        self.assertEqual(energies(answered[:5]), [210000, 4, 300, 0, 0])
        self.assertEqual(answered[5], [0, 14, 0, 210304, 14 * 60000])

    def test_a_port_that_is_off_gets_none_and_keeps_what_it_has(self):
        for off in (port(0, 0), fault(0), unplug(0)):
            answered = then((*DRAWING, tick(10), off, tick(10)), look(0), look(2), state())
            self.assertEqual(energies(answered[:2]), [150000, 600])
            self.assertEqual(answered[2], [0, 20, 0, 150600, 20 * 60000])

    def test_energy_goes_on_behind_a_cut(self):
        ready = (*DRAWING, tick(10), fault(0), clear(0), settle(), tick(10), draw(0, 1), tick(10))
        self.assertEqual(energies(then(ready, look(0))), [150010])

    def test_could_goes_by_what_can_be_given_at_that_time(self):
        answered = then((begin(1, 9, 0, (10, 200)),), tick(1), supply(1, 0), tick(2), supply(0, 0), tick(4),
                        supply(1, 1), tick(8), state())
        self.assertEqual(answered[-1], [0, 15, 0, 0, 210 + 2 * 10 + 8 * 200])

    def test_could_counts_the_spare_supply_too(self):
        self.assertEqual(then((begin(1, 9, 1, (10, 200)), tick(2)), state()), [[0, 2, 0, 0, 420]])

    def test_messages_stay(self):
        self.assertEqual(then((*DRAWING, wish(0, 1), again(0), tick(5)), state()),
                         [[0, 5, 2, 75150, 300000]])


class Look(unittest.TestCase):
    def test_no_grants(self):
        self.assertEqual(then((begin(2), port(1, 0, 3, 17)), look(0), look(1)),
                         [[0, 1, 0, 30000, 0, 0, 0, 0, 0, 0, 0, 0, 0], [0, 0, 3, 17, 0, 0, 0, 0, 0, 0, 0, 0, 0]])

    def test_every_number(self):
        ready = (begin(2), port(1, 1, 2, 26000), plug(1, 3), settle(), fault(1), clear(1), settle(), *wished(1, 22000),
                 settle(), lose(0), wish(1, 5), wish(1, 21000), deliver(1), lose(0), settle(), draw(1, 7), tick(3))
        self.assertEqual(then(ready, look(1)),
                         [[0, 1, 2, 26000, 0, 1, 2, 2, 22000, 3, 21000, 21, 3, 0, 15400, 1, 22000, 2, 21000]])

    def test_a_faulty_port(self):
        self.assertEqual(then((begin(1), plug(0, 1), settle(), fault(0)), look(0)), [seen(faulty=1, session=1)])

    def test_the_greatest_grant_is_what_is_reserved(self):
        ready = (begin(1), plug(0, 1), settle(), *wished(0, 9000), settle(), lose(0), *wished(0, 5000), settle())
        self.assertEqual(then(ready, look(0), calm(), look(0)), [
            lit([(0, 4000), (1, 9000), (2, 5000)], (2, 5000)), [0, 4], lit([(2, 5000)], (2, 5000))])

    def test_both_ends_of_its_range(self):
        self.assertEqual(then((begin(48),), look(0), look(47), look(48), look(-1)), [seen(), seen(), [-1], [-1]])


class DeviceCall(unittest.TestCase):
    def test_none(self):
        self.assertEqual(then((begin(2), plug(1, 1), unplug(1)), device(0), device(1), device(2), device(-1)),
                         [[-2], [-2], [-1], [-1]])

    def test_not_lit(self):
        self.assertEqual(then((begin(1), plug(0, 2)), device(0)), [[0, 2, 0, 0, 0, 0, 0]])

    def test_every_number(self):
        ready = (begin(1), plug(0, 3), settle(), fault(0), clear(0), settle(), *wished(0, 22000), settle(), calm(),
                 *wished(0, 21000), settle(), calm(), *wished(0, 20000), settle(), calm(), draw(0, 19000), wish(0, 1))
        self.assertEqual(then(ready, device(0)), [[0, 3, 2, 3, 20000, 19000, 4]])

    def test_each_class(self):
        for clazz, base in ((1, 4000), (2, 7000), (3, 15400), (4, 30000)):
            self.assertEqual(then((begin(1), plug(0, clazz), settle()), device(0)), [[0, clazz, 1, 0, base, 0, 0]])


class Power(unittest.TestCase):
    def test_every_number(self):
        self.assertEqual(then(DRAWING, power_now(), spare(1), power_now()),
                         [power(60000, 60000, 26400, 15030), power(60000, 10000, 26400, 15030),
                          power(60000, 10000, 26400, 15030)])

    def test_no_supply_on(self):
        self.assertEqual(then((*DRAWING, supply(0, 0), supply(1, 0)), power_now(), spare(1), power_now()),
                         [power(0, 0, 0, 0)] * 3)

    def test_changes_nothing(self):
        shown = everything(5, 1)
        self.assertEqual(then(DRAWING, *shown, *shown), then(DRAWING, *shown) * 2)


class Plan(unittest.TestCase):
    def test_nobody(self):
        self.assertEqual(then((begin(),), plan()), [[0, 0]])

    def test_bases_of_what_is_not_lit_yet(self):
        ready = (begin(4), plug(0, 1), plug(1, 2), plug(3, 4))
        self.assertEqual(then(ready, plan(), look(0), power_now()),
                         [[0, 3, 0, 4000, 1, 7000, 3, 30000], seen(), power(100000, 100000, 0, 0)])

    def test_only_what_is_fit(self):
        ready = (begin(5), plug(0, 1), plug(1, 1), plug(2, 1), plug(4, 1), settle(), port(0, 0), fault(1), unplug(4))
        self.assertEqual(then(ready, plan()), [[0, 1, 2, 4000]])

    def test_goes_by_rank_then_number(self):
        ready = (begin(4), *[plug(p, 1) for p in range(4)], port(0, 1, 3), port(1, 1, 1), port(3, 1, 1))
        self.assertEqual(then(ready, plan()), [[0, 4, 2, 4000, 1, 4000, 3, 4000, 0, 4000]])

    def test_one_is_passed_over_and_one_behind_it_is_not(self):
        ready = (begin(4, 9, 0, (20000,)), plug(0, 3), plug(1, 4), plug(2, 2), plug(3, 1))
        self.assertEqual(then(ready, plan(), settle(), plan()),
                         [[0, 2, 0, 15400, 3, 4000], power(20000, 20000, 19400, 0), [0, 2, 0, 15400, 3, 4000]])

    def test_a_base_that_is_just_what_is_left(self):
        for left, planned in ((19400, [0, 2, 0, 15400, 1, 4000]), (19399, [0, 1, 0, 15400]), (15399, [0, 1, 1, 4000])):
            self.assertEqual(then((begin(2, 9, 0, (left,)), plug(0, 3), plug(1, 1)), plan()), [planned])

    def test_surplus(self):
        for left, planned in ((100000, [0, 2, 0, 20000, 1, 25000]), (45000, [0, 2, 0, 20000, 1, 25000]),
                              (44999, [0, 2, 0, 20000, 1, 24999]), (35400, [0, 2, 0, 20000, 1, 15400]),
                              (35399, [0, 2, 0, 19999, 1, 15400]), (30800, [0, 2, 0, 15400, 1, 15400])):
            ready = (begin(2, 9, 0, (left,)), plug(0, 3), plug(1, 3), settle(), *wished(0, 20000), *wished(1, 25000))
            self.assertEqual(then(ready, plan(), state()), [planned, bag_of(0)])

    def test_surplus_by_rank(self):
        ready = (begin(2, 9, 0, (35400,)), plug(0, 3), plug(1, 3), port(0, 1, 1), settle(), *wished(0, 20000),
                 *wished(1, 25000))
        self.assertEqual(then(ready, plan()), [[0, 2, 1, 20000, 0, 15400]])

    def test_a_base_behind_goes_ahead_of_a_surplus(self):
        ready = (begin(2, 9, 0, (20000,)), plug(0, 3), settle(), *wished(0, 20000), plug(1, 1))
        self.assertEqual(then(ready, plan()), [[0, 2, 0, 16000, 1, 4000]])

    def test_no_surplus_above_the_most_or_below_the_base(self):
        for amount, most, planned in ((100000, 30000, 30000), (100000, 100000, 90000), (100000, 15400, 15400),
                                      (100000, 0, 15400), (0, 30000, 15400), (15401, 30000, 15401)):
            ready = (begin(1, 9, 0, (90000,)), plug(0, 3), port(0, 1, 0, most), settle(), *wished(0, amount))
            self.assertEqual(then(ready, plan()), [[0, 1, 0, planned]])

    def test_goes_by_what_may_be_given(self):
        ready = (begin(2, 9, 1, (30000, 20000)), plug(0, 3), plug(1, 1))
        self.assertEqual(then(ready, plan(), supply(0, 0), plan(), spare(0), plan()), [
            [0, 2, 0, 15400, 1, 4000], power(20000, 0, 0, 0), [0, 0], power(20000, 20000, 0, 0),
            [0, 2, 0, 15400, 1, 4000]])

    def test_a_wish_that_is_not_delivered_does_not_count(self):
        ready = (begin(1), plug(0, 1), settle(), wish(0, 9000))
        self.assertEqual(then(ready, plan(), deliver(0), plan()), [[0, 1, 0, 4000], [0, 0], [0, 1, 0, 9000]])

    def test_all_forty_eight_ports(self):
        ready = (begin(48, 9, 0, (10000000,)), *[plug(p, 4) for p in range(48)])
        expected = [0, 48]
        for p in range(48):
            expected += [p, 30000]
        self.assertEqual(then(ready, plan()), [expected])


class State(unittest.TestCase):
    def test_a_new_world(self):
        self.assertEqual(then((begin(),), state()), [[0, 0, 0, 0, 0]])

    def test_every_number(self):
        self.assertEqual(then((*DRAWING, tick(3), wish(0, 1), again(1), wish(2, 5)), state()),
                         [[0, 3, 3, 45090, 180000]])

    def test_counts_ports_with_no_device_any_more(self):
        self.assertEqual(then((*DRAWING, tick(3), unplug(0), unplug(2)), state()), [[0, 3, 0, 45090, 180000]])


if __name__ == "__main__":
    unittest.main()
