import unittest

from tests.helper import (again, begin, calm, clear, device, draw, everything, fault, last, lit, look, peek, plug, port,
                          power, run, seen, settle, state, then, tick, unplug, wish)

LIT = (begin(2, 3), plug(1, 3), settle())


class Wish(unittest.TestCase):
    def test_counts_how_often(self):
        self.assertEqual(run(*LIT, wish(1, 5), wish(1, 0), wish(1, 100000))[3:], [[0, 1], [0, 2], [0, 3]])

    def test_each_device_counts_its_own(self):
        answered = run(begin(2), plug(0, 1), plug(1, 1), settle(), wish(0, 1), wish(0, 1), wish(1, 1), wish(0, 1))
        self.assertEqual(answered[4:], [[0, 1], [0, 2], [0, 1], [0, 3]])

    def test_what_the_message_holds(self):
        second = (*LIT, port(1, 0), port(1, 1), settle(), wish(1, 5), wish(1, 9))
        self.assertEqual(then(second, peek(0), peek(1), peek(2), device(1)),
                         [[0, 2, 1, 2, 1, 5], [0, 2, 1, 2, 2, 9], [-1], [0, 3, 2, 0, 15400, 0, 2]])

    def test_the_port_has_it_only_when_it_is_delivered(self):
        before = lit([(0, 15400)], (0, 15400))
        behind = lit([(0, 15400)], (1, 20000))
        self.assertEqual(then((*LIT, wish(1, 20000), settle()), look(1), calm(), look(1)), [before, [0, 1], behind])

    def test_refusals(self):
        full = (wish(1, 1), wish(1, 1), wish(1, 1))
        self.assertEqual(last(*LIT, wish(0, 1)), [-2])
        self.assertEqual(last(begin(2), plug(1, 3), wish(1, 1)), [-3])
        self.assertEqual(last(*LIT, *full, wish(1, 1)), [-4])
        self.assertEqual(last(*LIT, *full, wish(0, 1)), [-2])
        self.assertEqual(last(*LIT, *full, port(1, 0), wish(1, 1)), [-3])
        self.assertEqual(last(*LIT, *full, wish(1, 100001)), [-1])

    def test_a_refused_wish_is_not_counted(self):
        full = (*LIT, wish(1, 1), wish(1, 1), wish(1, 1))
        shown = everything(2, 3)
        self.assertEqual(then(full, *shown, wish(1, 1), *shown), then(full, *shown) + [[-4]] + then(full, *shown))
        self.assertEqual(then(full, wish(1, 1), calm(), wish(1, 1)), [[-4], [0, 3], [0, 4]])


class Draw(unittest.TestCase):
    def test_the_lesser_of_amount_and_limit(self):
        answered = run(*LIT, draw(1, 15399), draw(1, 15400), draw(1, 15401), draw(1, 100000), draw(1, 0))
        self.assertEqual(answered[3:], [[0, 15399], [0, 15400], [0, 15400], [0, 15400], [0, 0]])

    def test_shows_in_what_is_drawn(self):
        answered = run(*LIT, plug(0, 1), settle(), draw(1, 100), draw(0, 20), settle(), draw(1, 3), settle())
        self.assertEqual(answered[-3], power(100000, 100000, 19400, 120))
        self.assertEqual(answered[-1], power(100000, 100000, 19400, 23))

    def test_refusals(self):
        self.assertEqual(last(*LIT, draw(0, 1)), [-2])
        self.assertEqual(last(begin(2), plug(1, 3), draw(1, 1)), [-3])
        self.assertEqual(last(*LIT, draw(1, -1)), [-1])

    def test_a_full_bag_is_no_refusal(self):
        self.assertEqual(last(*LIT, wish(1, 1), wish(1, 1), wish(1, 1), draw(1, 7)), [0, 7])


class Fault(unittest.TestCase):
    def test_cut_and_not_lit_until_cleared(self):
        answered = run(*LIT, draw(1, 6), fault(1), draw(1, 6), settle(), clear(1), draw(1, 6), settle(), draw(1, 6))
        self.assertEqual(answered[3:], [[0, 6], [0], [-3], power(100000, 100000, 0, 0), [0], [-3],
                                        power(100000, 100000, 15400, 0), [0, 6]])

    def test_refusals(self):
        self.assertEqual(last(*LIT, fault(0)), [-2])
        self.assertEqual(last(begin(2), plug(1, 3), fault(1)), [-3])
        self.assertEqual(last(*LIT, fault(1), fault(1)), [-3])

    def test_a_refused_fault_leaves_the_port_without_one(self):
        self.assertEqual(run(begin(2), fault(0), plug(1, 3), fault(1), clear(0), clear(1))[3:], [[-3], [-2], [-2]])

    def test_what_a_cut_leaves(self):
        answered = then((*LIT, wish(1, 7), draw(1, 7), tick(2), fault(1)), look(1), device(1), peek(0), peek(1))
        self.assertEqual(answered, [seen(faulty=1, session=1, energy=14), [0, 3, 0, 0, 0, 0, 0], [0, 2, 1, 1, 1, 7],
                                    [-1]])


class Clear(unittest.TestCase):
    def test_only_once(self):
        self.assertEqual(run(*LIT, clear(1), fault(1), clear(1), clear(1), clear(0))[3:],
                         [[-2], [0], [0], [-2], [-2]])

    def test_a_fault_outlasts_its_device_and_the_ports_settings(self):
        answered = run(*LIT, fault(1), unplug(1), port(1, 0), port(1, 1), plug(1, 1), settle(), clear(1), settle())
        self.assertEqual(answered[-3:], [power(100000, 100000, 0, 0), [0], power(100000, 100000, 4000, 0)])


class Again(unittest.TestCase):
    def test_puts_the_latest_grant(self):
        answered = then((*LIT, again(1), fault(1), clear(1), settle(), again(1)), peek(0), peek(1), state())
        self.assertEqual(answered, [[0, 0, 1, 1, 0, 15400], [0, 0, 1, 2, 0, 15400], [0, 0, 2, 0, 0]])

    def test_until_the_bag_is_full(self):
        self.assertEqual(run(*LIT, again(1), wish(1, 4), again(1), again(1), wish(1, 4), fault(1), again(1))[3:],
                         [[0], [0, 1], [0], [-4], [-4], [0], [-3]])

    def test_a_bag_for_one(self):
        self.assertEqual(run(begin(1, 1), plug(0, 1), settle(), again(0), again(0))[3:], [[0], [-4]])

    def test_off_is_refused_with_a_device_or_none(self):
        self.assertEqual(run(begin(2), plug(1, 3), again(0), again(1))[2:], [[-3], [-3]])


if __name__ == "__main__":
    unittest.main()
