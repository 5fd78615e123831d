"""Settling, through answers where calls lead there; a port's wish, which only a delivered message
sets, is set from within."""

import unittest

from tests.helper import (again, begin, clear, do, draw, fault, inside, last, line_after, plug, port, power, run,
                          settle, spare, supply, unplug, wish)


def grants(line, p):
    return line.world.ports[p].grants


def set_wish(line, p, amount):
    line.world.ports[p].wish_amount = amount


class ThroughAnswers(unittest.TestCase):
    def test_an_empty_world(self):
        self.assertEqual(run(begin(), settle(), settle())[1:], [power(100000, 100000, 0, 0)] * 2)

    def test_lights_all_that_fit(self):
        answered = run(begin(4), plug(0, 1), plug(1, 2), plug(2, 3), plug(3, 4), settle(), settle())
        self.assertEqual(answered[-2:], [power(100000, 100000, 56400, 0)] * 2)

    def test_just_enough_and_one_too_few(self):
        self.assertEqual(last(begin(1, 9, 0, (30000,)), plug(0, 4), settle()), power(30000, 30000, 30000, 0))
        self.assertEqual(last(begin(1, 9, 0, (29999,)), plug(0, 4), settle()), power(29999, 29999, 0, 0))

    def test_those_behind_one_that_does_not_fit_are_looked_at(self):
        answered = run(begin(4, 9, 0, (20000,)), plug(0, 3), plug(1, 4), plug(2, 2), plug(3, 1), settle(),
                       draw(0, 1), draw(1, 1), draw(2, 1), draw(3, 1))
        self.assertEqual(answered[5:], [power(20000, 20000, 19400, 0), [0, 1], [-3], [-3], [0, 1]])

    def test_not_enabled_or_faulty_or_no_device_is_left_off(self):
        answered = run(begin(4), plug(0, 1), plug(1, 1), plug(2, 1), port(0, 0), settle(), fault(1), settle(),
                       draw(0, 1), draw(1, 1), draw(2, 1), draw(3, 1))
        self.assertEqual(answered[5:], [power(100000, 100000, 8000, 0), [0], power(100000, 100000, 4000, 0),
                                        [-3], [-3], [0, 1], [-2]])

    def test_cuts_what_is_not_in_the_plan_any_more(self):
        answered = run(begin(3, 9, 0, (30000, 30000)), plug(1, 4), plug(2, 4), settle(), draw(1, 5), draw(2, 6),
                       spare(1), settle(), draw(2, 6), spare(0), settle(), draw(2, 6))
        self.assertEqual(answered[3:], [
            power(60000, 60000, 60000, 0), [0, 5], [0, 6], power(60000, 30000, 60000, 11),
            power(60000, 30000, 30000, 5), [-3], power(60000, 60000, 30000, 5), power(60000, 60000, 60000, 5), [0, 6]])

    def test_one_that_goes_ahead_takes_the_place_of_another(self):
        answered = run(begin(2, 9, 0, (30000,)), plug(1, 4), settle(), draw(1, 9), plug(0, 4), settle(), draw(0, 1),
                       draw(1, 1), port(0, 1, 2), settle(), draw(0, 1), draw(1, 1))
        self.assertEqual(answered[5:], [power(30000, 30000, 30000, 0), [0, 1], [-3], [0],
                                        power(30000, 30000, 30000, 0), [-3], [0, 1]])

    def test_spare_limits_the_plan(self):
        answered = run(begin(2, 9, 1, (30000, 30000)), plug(0, 4), plug(1, 4), settle(), supply(0, 0), settle())
        self.assertEqual(answered[3:], [power(60000, 30000, 30000, 0), power(30000, 0, 30000, 0),
                                        power(30000, 0, 0, 0)])

    def test_no_supply_on(self):
        self.assertEqual(last(begin(1), plug(0, 1), supply(0, 0), settle()), power(0, 0, 0, 0))

    def test_a_most_below_the_base_takes_nothing_from_it(self):
        self.assertEqual(last(begin(1), port(0, 1, 0, 0), plug(0, 4), settle()), power(100000, 100000, 30000, 0))

    def test_a_lit_port_stays_as_it_is(self):
        answered = run(begin(1), plug(0, 4), settle(), wish(0, 1), draw(0, 77), settle(), wish(0, 1), draw(0, 99999))
        self.assertEqual(answered[-3:], [power(100000, 100000, 30000, 77), [0, 2], [0, 30000]])

    def test_lit_anew_it_draws_nothing_and_has_not_asked(self):
        answered = run(begin(1), plug(0, 4), settle(), wish(0, 1), draw(0, 77), fault(0), clear(0), settle(),
                       wish(0, 1))
        self.assertEqual(answered[-2:], [power(100000, 100000, 30000, 0), [0, 1]])

    def test_all_forty_eight_ports(self):
        plugs = [plug(p, 1 + p % 4) for p in range(48)]
        self.assertEqual(last(begin(48, 9, 0, (10000000,)), *plugs, settle()),
                         power(10000000, 10000000, 12 * 56400, 0))

    def test_lighting_tells_nothing(self):
        answered = run(begin(2, 1), plug(0, 4), plug(1, 4), settle(), settle(), wish(0, 1))
        self.assertEqual(answered[-1], [0, 1])


class Inside(unittest.TestCase):
    def test_a_lit_port(self):
        line = line_after(begin(2), plug(1, 3), settle(), fault(1), clear(1), settle())
        self.assertEqual(inside(line.world.ports[1]), {
            "place": 1, "enabled": 1, "rank": 0, "most": 30000, "faulty": 0, "on": 1, "session": 2, "number": 0,
            "grants": [[0, 15400]], "wish_number": 0, "wish_amount": 15400, "energy": 0,
            "device": {"power_class": 3, "session": 2, "number": 0, "limit": 15400, "draws": 0, "asked": 0}})

    def test_gives_more(self):
        line = line_after(begin(2), plug(1, 3), settle())
        set_wish(line, 1, 25000)
        self.assertEqual(do(line, settle()), [power(100000, 100000, 25000, 0)])
        self.assertEqual(grants(line, 1), [(0, 15400), (1, 25000)])
        self.assertEqual(line.world.ports[1].number, 1)
        self.assertEqual(line.world.bag, [(0, 1, 1, 1, 25000)])
        self.assertEqual(do(line, draw(1, 25000)), [[0, 15400]])

    def test_the_surplus_goes_to_the_most_the_wish_or_what_is_left(self):
        for wished, most, supplied, given in ((50000, 30000, 90000, 30000), (20000, 30000, 90000, 20000),
                                              (50000, 30000, 20000, 20000), (15401, 30000, 90000, 15401)):
            line = line_after(begin(1, 9, 0, (supplied,)), port(0, 1, 0, most), plug(0, 3), settle())
            set_wish(line, 0, wished)
            self.assertEqual(do(line, settle()), [power(supplied, supplied, given, 0)])

    def test_a_wish_or_most_not_above_the_base_gives_nothing_more(self):
        for wished, most, supplied in ((15400, 30000, 90000), (3, 30000, 90000), (50000, 15400, 90000),
                                       (50000, 0, 90000), (50000, 30000, 15400)):
            line = line_after(begin(1, 9, 0, (supplied,)), port(0, 1, 0, most), plug(0, 3), settle())
            set_wish(line, 0, wished)
            self.assertEqual(do(line, settle()), [power(supplied, supplied, 15400, 0)])
            self.assertEqual(line.world.bag, [])

    def test_surpluses_go_by_the_order_behind_all_bases(self):
        line = line_after(begin(3, 9, 0, (20000,)), port(0, 1, 1), plug(0, 1), plug(1, 1), plug(2, 1), settle())
        for p in range(3):
            set_wish(line, p, 9000)
        self.assertEqual(do(line, settle()), [power(20000, 20000, 20000, 0)])
        self.assertEqual([grants(line, p)[-1][1] for p in range(3)], [4000, 9000, 7000])
        self.assertEqual(line.world.bag, [(0, 1, 1, 1, 9000), (0, 2, 1, 1, 7000)])

    def test_with_two_grants_it_tells_again_and_with_one_it_does_not(self):
        line = line_after(begin(2), plug(0, 1), plug(1, 3), settle())
        set_wish(line, 1, 25000)
        do(line, settle(), settle(), settle())
        self.assertEqual(line.world.bag, [(0, 1, 1, 1, 25000)] * 3)
        self.assertEqual(grants(line, 1), [(0, 15400), (1, 25000)])
        line.world.ports[1].grants = [(1, 25000)]
        do(line, settle())
        self.assertEqual(len(line.world.bag), 3)

    def test_gives_less_and_tells_it_twice(self):
        line = line_after(begin(2), plug(1, 3), settle())
        set_wish(line, 1, 25000)
        do(line, settle())
        set_wish(line, 1, 20000)
        self.assertEqual(do(line, settle()), [power(100000, 100000, 25000, 0)])
        self.assertEqual(grants(line, 1), [(0, 15400), (1, 25000), (2, 20000)])
        self.assertEqual(line.world.bag, [(0, 1, 1, 1, 25000), (0, 1, 1, 2, 20000), (0, 1, 1, 2, 20000)])

    def test_less_goes_ahead_of_more(self):
        line = line_after(begin(2, 9, 0, (20000,)), plug(0, 1), plug(1, 1), settle())
        set_wish(line, 1, 16000)
        do(line, settle())
        line.world.ports[1].grants = [(1, 16000)]
        line.world.bag = []
        set_wish(line, 0, 8000)
        self.assertEqual(do(line, settle()), [power(20000, 20000, 20000, 0)])
        self.assertEqual(line.world.bag, [(0, 1, 1, 2, 12000), (0, 1, 1, 2, 12000)])
        self.assertEqual(grants(line, 0), [(0, 4000)])

    def test_a_port_stays_off_while_old_grants_hold_the_power(self):
        for supplied, reserved, lit in ((40400, 40400, 1), (40399, 25000, 0)):
            line = line_after(begin(2, 9, 0, (supplied,)), plug(0, 3), settle())
            set_wish(line, 0, 25000)
            do(line, settle())
            do(line, plug(1, 3))
            set_wish(line, 0, 0)
            self.assertEqual(do(line, settle()), [power(supplied, supplied, reserved, 0)])
            self.assertEqual(line.world.ports[1].on, lit)
            line.world.ports[0].grants = [(2, 15400)]
            self.assertEqual(do(line, settle()), [power(supplied, supplied, 30800, 0)])

    def test_a_port_is_not_given_more_while_old_grants_hold_the_power(self):
        for supplied, reserved, given in ((45000, 45000, 20000), (44999, 40400, 15400)):
            line = line_after(begin(2, 9, 0, (supplied,)), plug(0, 3), plug(1, 3), settle())
            set_wish(line, 0, 25000)
            do(line, settle())
            set_wish(line, 0, 0)
            set_wish(line, 1, 20000)
            self.assertEqual(do(line, settle()), [power(supplied, supplied, reserved, 0)])
            self.assertEqual(grants(line, 1)[-1][1], given)

    def test_its_own_old_grants_do_not_stand_in_its_way(self):
        line = line_after(begin(1, 9, 0, (25000,)), plug(0, 3), settle())
        for wished in (25000, 0, 20000):
            set_wish(line, 0, wished)
            self.assertEqual(do(line, settle()), [power(25000, 25000, 25000, 0)])
        self.assertEqual(grants(line, 0), [(0, 15400), (1, 25000), (2, 15400), (3, 20000)])

    def test_more_that_is_held_back_tells_the_latest_if_there_are_two(self):
        line = line_after(begin(2, 9, 0, (44999,)), plug(0, 3), plug(1, 3), settle())
        line.world.ports[0].grants = [(0, 15400), (1, 25000), (2, 15400)]
        line.world.ports[1].grants = [(0, 15400), (1, 15400)]
        line.world.ports[1].number = 1
        set_wish(line, 1, 20000)
        do(line, settle())
        self.assertEqual(line.world.bag[-1], (0, 1, 1, 1, 15400))
        self.assertEqual(len(grants(line, 1)), 2)

    def test_a_cut_frees_power_for_others_at_once(self):
        line = line_after(begin(2, 9, 0, (30000,)), plug(1, 4), settle(), plug(0, 4), settle())
        self.assertEqual([line.world.ports[p].on for p in range(2)], [1, 0])

    def test_eight_grants_are_the_most(self):
        line = line_after(begin(1), plug(0, 3), settle())
        for step in range(7):
            set_wish(line, 0, 16000 + step)
            do(line, settle())
        full = [(0, 15400)] + [(step + 1, 16000 + step) for step in range(7)]
        self.assertEqual(grants(line, 0), full)
        line.world.bag = []
        set_wish(line, 0, 17000)
        self.assertEqual(do(line, settle()), [power(100000, 100000, 16006, 0)])
        self.assertEqual((grants(line, 0), line.world.ports[0].number), (full, 7))
        self.assertEqual(line.world.bag, [(0, 0, 1, 7, 16006)])
        set_wish(line, 0, 15500)
        do(line, settle())
        self.assertEqual((grants(line, 0), line.world.ports[0].number), (full, 7))
        self.assertEqual(line.world.bag, [(0, 0, 1, 7, 16006)] * 3)

    def test_what_is_put_into_a_full_bag_is_lost(self):
        line = line_after(begin(2, 2), plug(0, 3), plug(1, 3), settle(), wish(0, 1))
        set_wish(line, 0, 20000)
        set_wish(line, 1, 21000)
        self.assertEqual(do(line, settle()), [power(100000, 100000, 41000, 0)])
        self.assertEqual(line.world.bag, [(2, 0, 1, 1, 1), (0, 0, 1, 1, 20000)])
        self.assertEqual(grants(line, 1), [(0, 15400), (1, 21000)])

    def test_again_tells_the_latest_of_several(self):
        line = line_after(begin(1), plug(0, 3), settle())
        set_wish(line, 0, 20000)
        do(line, settle())
        line.world.bag = []
        do(line, again(0))
        self.assertEqual(line.world.bag, [(0, 0, 1, 1, 20000)])

    def test_supply_off_goes_by_the_greatest_grant(self):
        line = line_after(begin(1, 9, 0, (20000, 20000)), plug(0, 3), settle())
        line.world.ports[0].grants = [(0, 15400), (1, 25000), (2, 15400)]
        self.assertEqual(do(line, supply(1, 0)), [power(20000, 20000, 0, 0)])

    def test_every_cut_drops_grants_number_and_wish(self):
        for cuts in ((port(0, 0),), (fault(0),), (unplug(0),), (supply(0, 0),), (spare(1), settle())):
            line = line_after(begin(1), plug(0, 3), settle())
            line.world.ports[0].energy = 5
            line.world.ports[0].device.number = 3
            line.world.ports[0].wish_number = 4
            set_wish(line, 0, 25000)
            do(line, settle(), *cuts)
            was_cut = line.world.ports[0]
            self.assertEqual((was_cut.on, was_cut.grants, was_cut.number, was_cut.wish_number, was_cut.wish_amount),
                             (0, [], 0, 0, 0), cuts)
            self.assertEqual((was_cut.session, was_cut.energy, len(line.world.bag)), (1, 5, 1), cuts)
            if was_cut.device is not None:
                self.assertEqual(was_cut.device.number, 0, cuts)


if __name__ == "__main__":
    unittest.main()
