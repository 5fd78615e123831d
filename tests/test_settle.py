"""Settling as far as no message is delivered: what is lit, what is cut, what stays."""

import unittest

from tests.helper import (begin, clear, device, draw, fault, last, lit, look, plug, port, power, run, seen, settle,
                          spare, supply, then, wish)


class Settle(unittest.TestCase):
    def test_an_empty_world(self):
        self.assertEqual(run(begin(), settle(), settle())[1:], [power(100000, 100000, 0, 0)] * 2)

    def test_lights_all_that_fit(self):
        answered = run(begin(4), plug(0, 1), plug(1, 2), plug(2, 3), plug(3, 4), settle(), settle())
        self.assertEqual(answered[-2:], [power(100000, 100000, 56400, 0)] * 2)

    def test_just_enough_and_one_too_few(self):
        self.assertEqual(last(begin(1, 9, 0, (30000,)), plug(0, 4), settle()), power(30000, 30000, 30000, 0))
        self.assertEqual(last(begin(1, 9, 0, (29999,)), plug(0, 4), settle()), power(29999, 29999, 0, 0))

    def test_those_behind_one_that_does_not_fit_are_looked_at(self):
        answered = run(begin(4, 9, 0, (20000,)), plug(0, 3), plug(1, 4), plug(2, 2), plug(3, 1), settle(),
                       draw(0, 1), draw(1, 1), draw(2, 1), draw(3, 1))
        self.assertEqual(answered[5:], [power(20000, 20000, 19400, 0), [0, 1], [-3], [-3], [0, 1]])

    def test_not_enabled_or_faulty_or_no_device_is_left_off(self):
        answered = run(begin(4), plug(0, 1), plug(1, 1), plug(2, 1), port(0, 0), settle(), fault(1), settle(),
                       draw(0, 1), draw(1, 1), draw(2, 1), draw(3, 1))
        self.assertEqual(answered[5:], [power(100000, 100000, 8000, 0), [0], power(100000, 100000, 4000, 0),
                                        [-3], [-3], [0, 1], [-2]])

    def test_cuts_what_is_not_in_the_plan_any_more(self):
        answered = run(begin(3, 9, 0, (30000, 30000)), plug(1, 4), plug(2, 4), settle(), draw(1, 5), draw(2, 6),
                       spare(1), settle(), draw(2, 6), spare(0), settle(), draw(2, 6))
        self.assertEqual(answered[3:], [
            power(60000, 60000, 60000, 0), [0, 5], [0, 6], power(60000, 30000, 60000, 11),
            power(60000, 30000, 30000, 5), [-3], power(60000, 60000, 30000, 5), power(60000, 60000, 60000, 5), [0, 6]])

    def test_one_that_goes_ahead_takes_the_place_of_another(self):
        answered = run(begin(2, 9, 0, (30000,)), plug(1, 4), settle(), draw(1, 9), plug(0, 4), settle(), draw(0, 1),
                       draw(1, 1), port(0, 1, 2), settle(), draw(0, 1), draw(1, 1))
        self.assertEqual(answered[5:], [power(30000, 30000, 30000, 0), [0, 1], [-3], [0],
                                        power(30000, 30000, 30000, 0), [-3], [0, 1]])

    def test_spare_limits_the_plan(self):
        answered = run(begin(2, 9, 1, (30000, 30000)), plug(0, 4), plug(1, 4), settle(), supply(0, 0), settle())
        self.assertEqual(answered[3:], [power(60000, 30000, 30000, 0), power(30000, 0, 30000, 0),
                                        power(30000, 0, 0, 0)])

    def test_no_supply_on(self):
        self.assertEqual(last(begin(1), plug(0, 1), supply(0, 0), settle()), power(0, 0, 0, 0))

    def test_a_most_below_the_base_takes_nothing_from_it(self):
        self.assertEqual(last(begin(1), port(0, 1, 0, 0), plug(0, 4), settle()), power(100000, 100000, 30000, 0))

    def test_a_lit_port_stays_as_it_is(self):
        answered = run(begin(1), plug(0, 4), settle(), wish(0, 1), draw(0, 77), settle(), wish(0, 1), draw(0, 99999))
        self.assertEqual(answered[-3:], [power(100000, 100000, 30000, 77), [0, 2], [0, 30000]])

    def test_lit_anew_it_draws_nothing_and_has_not_asked(self):
        answered = run(begin(1), plug(0, 4), settle(), wish(0, 1), draw(0, 77), fault(0), clear(0), settle(),
                       wish(0, 1))
        self.assertEqual(answered[-2:], [power(100000, 100000, 30000, 0), [0, 1]])

    def test_all_forty_eight_ports(self):
        plugs = [plug(p, 1 + p % 4) for p in range(48)]
        self.assertEqual(last(begin(48, 9, 0, (10000000,)), *plugs, settle()),
                         power(10000000, 10000000, 12 * 56400, 0))

    def test_lighting_tells_nothing(self):
        answered = run(begin(2, 1), plug(0, 4), plug(1, 4), settle(), settle(), wish(0, 1))
        self.assertEqual(answered[-1], [0, 1])

    def test_a_lit_port(self):
        answered = then((begin(2), plug(1, 3), settle(), fault(1), clear(1), settle()), look(1), device(1))
        self.assertEqual(answered, [lit([(0, 15400)], (0, 15400), session=2),
                                    [0, 3, 2, 0, 15400, 0, 0]])

    def test_what_is_cut_frees_power_at_once(self):
        answered = then((begin(2, 9, 0, (30000,)), plug(1, 4), settle(), port(1, 1, 1), plug(0, 4), settle()),
                        look(0), look(1))
        self.assertEqual(answered, [lit([(0, 30000)], (0, 30000)),
                                    seen(rank=1, session=1)])


if __name__ == "__main__":
    unittest.main()
