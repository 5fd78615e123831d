import unittest

from tests.helper import (again, begin, clear, deliver, device, draw, everything, fault, look, peek, plan, plug, port,
                          power, power_now, run, seen, settle, spare, state, supply, then, tick, unplug, wish, wished)


class Begin(unittest.TestCase):
    def test_one_to_four_amounts(self):
        for amounts in ((7,), (7, 8), (7, 8, 9), (7, 8, 9, 10)):
            total = sum(amounts)
            self.assertEqual(run(begin(amounts=amounts), spare(0)), [[0], power(total, total, 0, 0)])

    def test_no_five_and_ninety_six_amounts(self):
        for count in (0, 5, 6, 96):
            self.assertEqual(run(begin(amounts=(5,) * count), settle()), [[-1], [-9]])

    def test_both_ends_of_each_range(self):
        for ports in (1, 48):
            self.assertEqual(run(begin(ports=ports), plug(ports - 1, 1), plug(ports, 1)), [[0], [0], [-1]])
        for cap in (1, 10000):
            self.assertEqual(run(begin(cap=cap)), [[0]])
        for amount in (1, 10000000):
            self.assertEqual(run(begin(amounts=(amount,)), spare(0)), [[0], power(amount, amount, 0, 0)])
        self.assertEqual(run(begin(spare=0, amounts=(5, 6)), settle()), [[0], power(11, 11, 0, 0)])
        self.assertEqual(run(begin(spare=1, amounts=(5, 6)), settle()), [[0], power(11, 5, 0, 0)])

    def test_beyond_each_range(self):
        far = 1000000000000000000
        wrong = [begin(ports=n) for n in (0, 49, -1, far, -far)]
        wrong += [begin(cap=n) for n in (0, 10001, -1, far, -far)]
        wrong += [begin(spare=n) for n in (-1, 2, far, -far)]
        for n in (0, 10000001, -1, far, -far):
            wrong += [begin(amounts=(n,)), begin(amounts=(n, 1, 1, 1)), begin(amounts=(1, 1, 1, n))]
        for call in wrong:
            self.assertEqual(run(call, settle()), [[-1], [-9]], call)

    def test_every_part_of_a_new_world(self):
        answered = then((begin(ports=2, cap=9, spare=1, amounts=(5, 6)),), look(0), look(1), look(2), device(0),
                        device(1), power_now(), plan(), state(), peek(0), supply(0, 1), supply(1, 1))
        self.assertEqual(answered, [seen(), seen(), [-1], [-2], [-2], power(11, 5, 0, 0), [0, 0], [0, 0, 0, 0, 0],
                                    [-1], [-2], [-2]])

    def test_the_bag_holds_cap_messages(self):
        for cap in (1, 2, 9):
            answered = then((begin(1, cap), plug(0, 1), settle()), *[again(0)] * (cap + 1), state())
            self.assertEqual(answered, [[0]] * cap + [[-4], [0, 0, cap, 0, 0]])

    def test_a_second_begin_makes_a_new_world(self):
        used = (begin(2, 1, 0, (50000, 1)), port(1, 1, 3, 5), plug(0, 4), plug(1, 1), settle(), draw(0, 7), tick(9),
                *wished(1, 6000), wish(0, 5), fault(1), supply(1, 0))
        new = begin(3, 2, 1, (50, 60))
        self.assertEqual(then(used + (new,), *everything(3, 2)), then((new,), *everything(3, 2)))
        answered = then(used + (new,), settle(), plug(2, 1), draw(0, 1), unplug(0), clear(1), deliver(0), supply(1, 0))
        self.assertEqual(answered, [power(110, 50, 0, 0), [0], [-2], [-2], [-2], [-1], power(50, 0, 0, 0)])

    def test_a_refused_second_begin_leaves_the_world(self):
        used = (begin(2, 1, 0, (50000,)), plug(0, 4), settle(), draw(0, 100))
        for wrong in (begin(0), begin(amounts=()), begin(amounts=(0,)), begin(cap=0), begin(spare=2)):
            answered = then(used, wrong, spare(0), wish(0, 1), again(0))
            self.assertEqual(answered, [[-1], power(50000, 50000, 30000, 100), [0, 1], [-4]])


if __name__ == "__main__":
    unittest.main()
