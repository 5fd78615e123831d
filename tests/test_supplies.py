import unittest

from tests.helper import (again, begin, device, draw, fault, last, look, peek, plug, port, power, run, seen, settle,
                          spare, supply, then, tick, wish)


class Supply(unittest.TestCase):
    def test_off_and_on(self):
        answered = run(begin(1, 5, 0, (10, 20, 40, 80)), supply(0, 0), supply(3, 0), supply(0, 1))
        self.assertEqual(answered, [[0], power(140, 140, 0, 0), power(60, 60, 0, 0), power(70, 70, 0, 0)])

    def test_already_so(self):
        answered = run(begin(1, 5, 0, (10, 20)), supply(0, 1), supply(0, 0), supply(0, 0), supply(0, 1), supply(0, 1))
        self.assertEqual(answered, [[0], [-2], power(20, 20, 0, 0), [-2], power(30, 30, 0, 0), [-2]])

    def test_cuts_from_the_last_in_the_order(self):
        lit = (begin(3, 9, 0, (20000, 20000, 20000)), plug(0, 3), plug(1, 3), plug(2, 3), settle())
        self.assertEqual(last(*lit), power(60000, 60000, 46200, 0))
        answered = run(*lit, draw(0, 1), draw(1, 2), draw(2, 4), supply(1, 0), draw(2, 4), draw(1, 2),
                       supply(0, 0), draw(1, 2), draw(0, 1), supply(2, 0), draw(0, 1))
        self.assertEqual(answered[len(lit):], [
            [0, 1], [0, 2], [0, 4], power(40000, 40000, 30800, 3), [-3], [0, 2],
            power(20000, 20000, 15400, 1), [-3], [0, 1], power(0, 0, 0, 0), [-3]])

    def test_cuts_by_rank_then_number(self):
        answered = run(begin(4, 9, 0, (30800, 30800)), port(0, 1, 3), port(1, 1, 0), port(2, 1, 3), port(3, 1, 1),
                       plug(0, 3), plug(1, 3), plug(2, 3), plug(3, 3), settle(), supply(0, 0),
                       draw(0, 1), draw(1, 1), draw(2, 1), draw(3, 1))
        self.assertEqual(answered[-6:], [power(61600, 61600, 61600, 0), power(30800, 30800, 30800, 0),
                                         [-3], [0, 1], [-3], [0, 1]])

    def test_of_one_rank_the_higher_number_is_cut_first(self):
        answered = run(begin(3, 9, 0, (30800, 15400)), port(0, 1, 2), port(1, 1, 2), port(2, 1, 0),
                       plug(0, 3), plug(1, 3), plug(2, 3), settle(), supply(1, 0), draw(0, 1), draw(1, 1), draw(2, 1))
        self.assertEqual(answered[-4:], [power(30800, 30800, 30800, 0), [0, 1], [-3], [0, 1]])

    def test_a_cut_that_is_not_enough_goes_on_and_then_stops(self):
        answered = run(begin(4, 9, 0, (20000, 40000)), plug(0, 1), plug(1, 3), plug(2, 4), plug(3, 1), settle(),
                       supply(1, 0), draw(0, 1), draw(1, 1), draw(2, 1), draw(3, 1))
        self.assertEqual(answered[-6:], [power(60000, 60000, 53400, 0), power(20000, 20000, 19400, 0),
                                         [0, 1], [0, 1], [-3], [-3]])

    def test_enough_left_cuts_nothing(self):
        answered = run(begin(2, 9, 0, (15400, 15400)), plug(0, 2), plug(1, 2), settle(), supply(0, 0), draw(1, 1))
        self.assertEqual(answered[-2:], [power(15400, 15400, 14000, 0), [0, 1]])

    def test_just_enough_left_cuts_nothing(self):
        answered = run(begin(2, 9, 0, (8000, 1)), plug(0, 1), plug(1, 1), settle(), supply(1, 0))
        self.assertEqual(answered[-1], power(8000, 8000, 8000, 0))
        answered = run(begin(2, 9, 0, (7999, 1)), plug(0, 1), plug(1, 1), settle(), supply(1, 0))
        self.assertEqual(answered[-1], power(7999, 7999, 4000, 0))

    def test_what_can_be_given_counts_and_not_what_may(self):
        answered = run(begin(1, 9, 0, (30000, 30000)), plug(0, 4), settle(), spare(1), supply(1, 0))
        self.assertEqual(answered[-2:], [power(60000, 30000, 30000, 0), power(30000, 0, 30000, 0)])

    def test_on_again_lights_nothing(self):
        answered = run(begin(1, 9, 0, (30000,)), plug(0, 4), settle(), supply(0, 0), supply(0, 1), draw(0, 1),
                       settle())
        self.assertEqual(answered[-3:], [power(30000, 30000, 0, 0), [-3], power(30000, 30000, 30000, 0)])

    def test_a_port_that_is_off_is_passed_over(self):
        answered = run(begin(3, 9, 0, (15400, 30800)), plug(0, 3), plug(1, 3), plug(2, 3), settle(), fault(2),
                       supply(1, 0), draw(0, 1), draw(1, 1))
        self.assertEqual(answered[-3:], [power(15400, 15400, 15400, 0), [0, 1], [-3]])

    def test_what_a_cut_leaves(self):
        answered = then((begin(1, 9, 0, (30000,)), port(0, 1, 2, 5), plug(0, 4), settle(), wish(0, 7), draw(0, 7),
                         tick(1), again(0), supply(0, 0)), look(0), device(0), peek(0), peek(1), peek(2))
        self.assertEqual(answered, [seen(rank=2, most=5, session=1, energy=7), [0, 4, 0, 0, 0, 0, 0],
                                    [0, 2, 0, 1, 1, 7], [0, 0, 0, 1, 0, 30000], [-1]])


class Spare(unittest.TestCase):
    def test_the_greatest_that_is_on_is_kept(self):
        answered = run(begin(1, 9, 0, (10, 40, 20)), spare(1), supply(1, 0), supply(1, 1), spare(0))
        self.assertEqual(answered, [[0], power(70, 30, 0, 0), power(30, 10, 0, 0), power(70, 30, 0, 0),
                                    power(70, 70, 0, 0)])

    def test_of_two_greatest_one_is_kept(self):
        self.assertEqual(last(begin(1, 9, 0, (40, 40)), spare(1)), power(80, 40, 0, 0))

    def test_one_on_and_none_on(self):
        answered = run(begin(1, 9, 1, (10, 40)), supply(0, 0), supply(1, 0), spare(1), spare(0))
        self.assertEqual(answered[1:], [power(40, 0, 0, 0), power(0, 0, 0, 0), power(0, 0, 0, 0), power(0, 0, 0, 0)])

    def test_the_same_again_is_no_refusal(self):
        answered = run(begin(1, 9, 0, (10, 40)), spare(0), spare(1), spare(1))
        self.assertEqual(answered[1:], [power(50, 50, 0, 0), power(50, 10, 0, 0), power(50, 10, 0, 0)])

    def test_nothing_is_cut(self):
        answered = run(begin(1, 9, 0, (30000,)), plug(0, 4), settle(), draw(0, 12), spare(1), draw(0, 13), settle())
        self.assertEqual(answered[-3:], [power(30000, 0, 30000, 12), [0, 13], power(30000, 0, 0, 0)])


if __name__ == "__main__":
    unittest.main()
