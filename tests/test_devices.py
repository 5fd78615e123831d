import unittest

from tests.helper import (again, begin, clear, do, draw, fault, inside, last, line_after, plug, port, power, run,
                          settle, unplug, wish)

LIT = (begin(2, 3), plug(1, 3), settle())


class Wish(unittest.TestCase):
    def test_counts_how_often(self):
        self.assertEqual(run(*LIT, wish(1, 5), wish(1, 0), wish(1, 100000))[3:], [[0, 1], [0, 2], [0, 3]])

    def test_each_device_counts_its_own(self):
        answered = run(begin(2), plug(0, 1), plug(1, 1), settle(), wish(0, 1), wish(0, 1), wish(1, 1), wish(0, 1))
        self.assertEqual(answered[4:], [[0, 1], [0, 2], [0, 1], [0, 3]])

    def test_what_the_message_holds(self):
        line = line_after(*LIT, port(1, 0), port(1, 1), settle(), wish(1, 5), wish(1, 9))
        self.assertEqual(line.world.bag, [(2, 1, 2, 1, 5), (2, 1, 2, 2, 9)])

    def test_the_port_has_no_other_wish_yet(self):
        line = line_after(*LIT, wish(1, 20000), settle())
        wished = line.world.ports[1]
        self.assertEqual((wished.wish_number, wished.wish_amount, wished.grants), (0, 15400, [(0, 15400)]))

    def test_refusals(self):
        full = (wish(1, 1), wish(1, 1), wish(1, 1))
        self.assertEqual(last(*LIT, wish(0, 1)), [-2])
        self.assertEqual(last(begin(2), plug(1, 3), wish(1, 1)), [-3])
        self.assertEqual(last(*LIT, *full, wish(1, 1)), [-4])
        self.assertEqual(last(*LIT, *full, wish(0, 1)), [-2])
        self.assertEqual(last(*LIT, *full, port(1, 0), wish(1, 1)), [-3])
        self.assertEqual(last(*LIT, *full, wish(1, 100001)), [-1])

    def test_a_refused_wish_is_not_counted(self):
        line = line_after(*LIT, wish(1, 1), wish(1, 1), wish(1, 1))
        before = inside(line)
        self.assertEqual(do(line, wish(1, 1)), [[-4]])
        self.assertEqual(inside(line), before)


class Draw(unittest.TestCase):
    def test_the_lesser_of_amount_and_limit(self):
        answered = run(*LIT, draw(1, 15399), draw(1, 15400), draw(1, 15401), draw(1, 100000), draw(1, 0))
        self.assertEqual(answered[3:], [[0, 15399], [0, 15400], [0, 15400], [0, 15400], [0, 0]])

    def test_shows_in_what_is_drawn(self):
        answered = run(*LIT, plug(0, 1), settle(), draw(1, 100), draw(0, 20), settle(), draw(1, 3), settle())
        self.assertEqual(answered[-3], power(100000, 100000, 19400, 120))
        self.assertEqual(answered[-1], power(100000, 100000, 19400, 23))

    def test_refusals(self):
        self.assertEqual(last(*LIT, draw(0, 1)), [-2])
        self.assertEqual(last(begin(2), plug(1, 3), draw(1, 1)), [-3])
        self.assertEqual(last(*LIT, draw(1, -1)), [-1])

    def test_a_full_bag_is_no_refusal(self):
        self.assertEqual(last(*LIT, wish(1, 1), wish(1, 1), wish(1, 1), draw(1, 7)), [0, 7])


class Fault(unittest.TestCase):
    def test_cut_and_not_lit_until_cleared(self):
        answered = run(*LIT, draw(1, 6), fault(1), draw(1, 6), settle(), clear(1), draw(1, 6), settle(), draw(1, 6))
        self.assertEqual(answered[3:], [[0, 6], [0], [-3], power(100000, 100000, 0, 0), [0], [-3],
                                        power(100000, 100000, 15400, 0), [0, 6]])

    def test_refusals(self):
        self.assertEqual(last(*LIT, fault(0)), [-2])
        self.assertEqual(last(begin(2), plug(1, 3), fault(1)), [-3])
        self.assertEqual(last(*LIT, fault(1), fault(1)), [-3])

    def test_a_refused_fault_leaves_the_port_without_one(self):
        self.assertEqual(run(begin(2), fault(0), plug(1, 3), fault(1), clear(0), clear(1))[3:], [[-3], [-2], [-2]])

    def test_what_a_cut_leaves(self):
        line = line_after(*LIT, wish(1, 7), draw(1, 7), fault(1))
        self.assertEqual(inside(line.world.ports[1]), {
            "place": 1, "enabled": 1, "rank": 0, "most": 30000, "faulty": 1, "on": 0, "session": 1, "number": 0,
            "grants": [], "wish_number": 0, "wish_amount": 0, "energy": 0,
            "device": {"power_class": 3, "session": 0, "number": 0, "limit": 0, "draws": 0, "asked": 0}})
        self.assertEqual(line.world.bag, [(2, 1, 1, 1, 7)])


class Clear(unittest.TestCase):
    def test_only_once(self):
        self.assertEqual(run(*LIT, clear(1), fault(1), clear(1), clear(1), clear(0))[3:],
                         [[-2], [0], [0], [-2], [-2]])

    def test_a_fault_outlasts_its_device_and_the_ports_settings(self):
        answered = run(*LIT, fault(1), unplug(1), port(1, 0), port(1, 1), plug(1, 1), settle(), clear(1), settle())
        self.assertEqual(answered[-3:], [power(100000, 100000, 0, 0), [0], power(100000, 100000, 4000, 0)])


class Again(unittest.TestCase):
    def test_puts_the_latest_grant(self):
        line = line_after(*LIT, again(1), fault(1), clear(1), settle(), again(1))
        self.assertEqual(line.world.bag, [(0, 1, 1, 0, 15400), (0, 1, 2, 0, 15400)])

    def test_until_the_bag_is_full(self):
        self.assertEqual(run(*LIT, again(1), wish(1, 4), again(1), again(1), wish(1, 4), fault(1), again(1))[3:],
                         [[0], [0, 1], [0], [-4], [-4], [0], [-3]])

    def test_a_bag_for_one(self):
        self.assertEqual(run(begin(1, 1), plug(0, 1), settle(), again(0), again(0))[3:], [[0], [-4]])

    def test_off_is_refused_with_a_device_or_none(self):
        self.assertEqual(run(begin(2), plug(1, 3), again(0), again(1))[2:], [[-3], [-3]])


if __name__ == "__main__":
    unittest.main()
