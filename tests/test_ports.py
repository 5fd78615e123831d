import unittest

from tests.helper import (again, begin, device, draw, fault, look, peek, plug, port, power, run, seen, settle, then,
                          tick, unplug, wish)


class Port(unittest.TestCase):
    def test_has_what_is_told(self):
        answered = then((begin(2), port(1, 0, 3, 100000)), look(1), look(0), port(1, 1, 2, 0), look(1))
        self.assertEqual(answered, [seen(enabled=0, rank=3, most=100000), seen(), [0], seen(rank=2, most=0)])

    def test_not_enabled_is_cut(self):
        answered = run(begin(2), plug(0, 4), plug(1, 1), settle(), draw(0, 9), draw(1, 5), port(0, 0), draw(0, 9),
                       settle(), port(0, 1), draw(0, 9), settle(), draw(0, 9))
        self.assertEqual(answered[6:], [[0], [-3], power(100000, 100000, 4000, 5), [0], [-3],
                                        power(100000, 100000, 34000, 5), [0, 9]])

    def test_enabled_stays_lit(self):
        answered = run(begin(2), plug(0, 4), settle(), draw(0, 9), port(0, 1, 3, 0), settle(), draw(0, 30001))
        self.assertEqual(answered[4:], [[0], power(100000, 100000, 30000, 9), [0, 30000]])

    def test_rank_goes_ahead_of_number(self):
        lit = (plug(0, 4), plug(1, 4), settle(), draw(0, 1), draw(1, 1))
        self.assertEqual(run(begin(2, 9, 0, (30000,)), *lit)[-2:], [[0, 1], [-3]])
        self.assertEqual(run(begin(2, 9, 0, (30000,)), port(0, 1, 1), *lit)[-2:], [[-3], [0, 1]])
        self.assertEqual(run(begin(2, 9, 0, (30000,)), port(0, 1, 2), port(1, 1, 3), *lit)[-2:], [[0, 1], [-3]])
        self.assertEqual(run(begin(2, 9, 0, (30000,)), port(0, 1, 3), port(1, 1, 3), *lit)[-2:], [[0, 1], [-3]])

    def test_a_cut_port_keeps_its_session_and_its_device(self):
        answered = then((begin(1), plug(0, 4), settle(), wish(0, 7), draw(0, 7), tick(3), port(0, 0, 1, 2)),
                        look(0), device(0))
        self.assertEqual(answered, [seen(enabled=0, rank=1, most=2, session=1, energy=21), [0, 4, 0, 0, 0, 0, 0]])

    def test_off_ports_and_ports_without_a_device_can_be_set(self):
        self.assertEqual(run(begin(1), port(0, 0), port(0, 0), port(0, 1)), [[0]] * 4)


class Plug(unittest.TestCase):
    def test_each_class_has_its_base(self):
        for clazz, base in ((1, 4000), (2, 7000), (3, 15400), (4, 30000)):
            answered = run(begin(1), plug(0, clazz), settle(), draw(0, 100000))
            self.assertEqual(answered[1:], [[0], power(100000, 100000, base, 0), [0, base]])

    def test_a_new_device_is_all_zero_but_for_its_class(self):
        self.assertEqual(then((begin(1), plug(0, 3)), device(0), look(0)), [[0, 3, 0, 0, 0, 0, 0], seen()])

    def test_lights_nothing(self):
        self.assertEqual(run(begin(1), plug(0, 3), draw(0, 1), again(0)), [[0], [0], [-3], [-3]])

    def test_a_second_device_is_refused(self):
        answered = run(begin(2), plug(0, 1), plug(0, 4), plug(1, 2), settle(), plug(0, 2), settle())
        self.assertEqual(answered, [[0], [0], [-2], [0], power(100000, 100000, 11000, 0), [-2],
                                    power(100000, 100000, 11000, 0)])

    def test_a_port_that_is_not_enabled_takes_a_device(self):
        self.assertEqual(run(begin(1), port(0, 0), plug(0, 1), unplug(0)), [[0]] * 4)


class Unplug(unittest.TestCase):
    def test_cuts_and_has_none(self):
        answered = run(begin(1), plug(0, 4), settle(), draw(0, 8), unplug(0), draw(0, 8), again(0), settle(),
                       plug(0, 1), settle())
        self.assertEqual(answered[4:], [[0], [-2], [-3], power(100000, 100000, 0, 0), [0],
                                        power(100000, 100000, 4000, 0)])

    def test_no_device_is_refused(self):
        answered = run(begin(2), unplug(0), plug(0, 1), unplug(1), unplug(0), unplug(0))
        self.assertEqual(answered, [[0], [-2], [0], [-2], [0], [-2]])

    def test_session_rank_and_fault_stay(self):
        answered = then((begin(1), port(0, 1, 3, 9), plug(0, 4), settle(), wish(0, 3), fault(0), unplug(0)),
                        look(0), device(0), peek(0))
        self.assertEqual(answered, [seen(rank=3, most=9, faulty=1, session=1), [-2], [0, 2, 0, 1, 1, 3]])

    def test_a_lit_port_is_off_without_its_device(self):
        self.assertEqual(then((begin(1), plug(0, 4), settle(), unplug(0)), look(0), device(0)),
                         [seen(session=1), [-2]])

    def test_asking_starts_anew_with_the_next_device(self):
        answered = run(begin(1), plug(0, 4), settle(), wish(0, 3), wish(0, 3), unplug(0), plug(0, 4), settle(),
                       wish(0, 3))
        self.assertEqual(answered[-1], [0, 1])


if __name__ == "__main__":
    unittest.main()
