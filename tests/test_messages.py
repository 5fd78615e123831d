"""Messages under way: delivered, lost, doubled, all delivered, and peeked at."""

import unittest

from tests.helper import (again, bag_of, begin, calm, clear, deliver, device, double, draw, everything, fault, lit,
                          look, lose, peek, plug, port, power, power_now, run, seen, settle, state, then, unplug, wish,
                          wished)

# Port 1 is lit with a device of class 3; port 0 has none.
LIT = (begin(2, 5), plug(1, 3), settle())
ASKED = (*LIT, wish(1, 16000), wish(1, 17000), wish(1, 18000))
# Both grants are under way, the greater of them second.
TWO_GRANTS = (*LIT, *wished(1, 20000), settle(), wish(1, 25000), deliver(1), settle())


def peeks(count):
    return [peek(k) for k in range(count)]


class Peek(unittest.TestCase):
    def test_each_of_the_three_messages(self):
        ready = (*LIT, again(1), deliver(0), wish(1, 100000), again(1))
        self.assertEqual(then(ready, *peeks(4)),
                         [[0, 1, 1, 1, 0], [0, 2, 1, 1, 1, 100000], [0, 0, 1, 1, 0, 15400], [-1]])

    def test_changes_nothing(self):
        self.assertEqual(then(ASKED, peek(1), peek(1), state()), [[0, 2, 1, 1, 2, 17000]] * 2 + [bag_of(3)])

    def test_an_empty_bag(self):
        self.assertEqual(then(LIT, peek(0), peek(-1), peek(1)), [[-1]] * 3)


class Deliver(unittest.TestCase):
    def test_from_the_front(self):
        self.assertEqual(then(ASKED, deliver(0), look(1), *peeks(3)), [
            [0, 2], lit([(0, 15400)], (1, 16000)), [0, 2, 1, 1, 2, 17000], [0, 2, 1, 1, 3, 18000], [-1]])

    def test_from_the_middle(self):
        self.assertEqual(then(ASKED, deliver(1), look(1), *peeks(3)), [
            [0, 2], lit([(0, 15400)], (2, 17000)), [0, 2, 1, 1, 1, 16000], [0, 2, 1, 1, 3, 18000], [-1]])

    def test_from_the_end(self):
        self.assertEqual(then(ASKED, deliver(2), look(1), *peeks(3)), [
            [0, 2], lit([(0, 15400)], (3, 18000)), [0, 2, 1, 1, 1, 16000], [0, 2, 1, 1, 2, 17000], [-1]])

    def test_beyond_the_bag(self):
        self.assertEqual(then(ASKED, deliver(3), deliver(-1), deliver(2), deliver(2), state()),
                         [[-1], [-1], [0, 2], [-1], bag_of(2)])

    def test_an_empty_bag(self):
        self.assertEqual(then(LIT, deliver(0), deliver(-1)), [[-1], [-1]])

    def test_counts_what_the_bag_holds_then(self):
        ready = (*LIT, wish(1, 1), again(1), wish(1, 2))
        self.assertEqual(then(ready, deliver(1), deliver(2), deliver(1), deliver(0)), [[0, 3], [0, 2], [0, 1], [0, 0]])

    def test_comes_to_its_own_port_alone(self):
        ready = (begin(3), plug(0, 3), plug(1, 3), plug(2, 3), settle(), wish(1, 20000))
        other = lit([(0, 15400)], (0, 15400))
        self.assertEqual(then(ready, deliver(0), look(0), look(1), look(2), settle(), calm(), look(0), look(1), look(2),
                              device(0), device(1)), [
            [0, 0], other, lit([(0, 15400)], (1, 20000)), other, power(100000, 100000, 50800, 0), [0, 2], other,
            lit([(1, 20000)], (1, 20000)), other, [0, 3, 1, 0, 15400, 0, 0], [0, 3, 1, 1, 20000, 0, 1]])


class GrantMessage(unittest.TestCase):
    def test_is_what_the_device_goes_by(self):
        ready = (*LIT, *wished(1, 20000), settle(), draw(1, 9000))
        self.assertEqual(then(ready, device(1), deliver(0), device(1), *peeks(2), look(1)), [
            [0, 3, 1, 0, 15400, 9000, 1], [0, 1], [0, 3, 1, 1, 20000, 9000, 1], [0, 1, 1, 1, 1], [-1],
            lit([(0, 15400), (1, 20000)], (1, 20000))])

    def test_lowers_what_the_device_draws_to_the_limit(self):
        for drawn, left in ((15400, 15400), (15401, 15400), (15399, 15399), (20000, 15400)):
            ready = (*LIT, *wished(1, 20000), settle(), calm(), draw(1, drawn), *wished(1, 0), settle())
            self.assertEqual(then(ready, deliver(0), device(1), power_now()), [
                [0, 2], [0, 3, 1, 2, 15400, left, 2], power(100000, 100000, 20000, left)])

    def test_with_no_device_is_nothing(self):
        ready = (*LIT, again(1), again(1), unplug(1))
        self.assertEqual(then(ready, deliver(1), look(1), device(1), deliver(0), state()),
                         [[0, 1], seen(session=1), [-2], [0, 0], bag_of(0)])

    def test_with_the_port_off_is_nothing(self):
        for off in (port(1, 0), fault(1)):
            shown = everything(2, 0)
            answered = then((*LIT, again(1), off), *shown, deliver(0), *shown)
            self.assertEqual(answered[len(shown)], [0, 0])
            self.assertEqual(answered[3:len(shown)], answered[len(shown) + 4:])

    def test_with_a_new_device_and_the_port_off_is_nothing(self):
        ready = (*LIT, again(1), unplug(1), plug(1, 4))
        self.assertEqual(then(ready, deliver(0), device(1), look(1)), [[0, 0], [0, 4, 0, 0, 0, 0, 0], seen(session=1)])

    def test_of_an_earlier_session_is_nothing(self):
        for between in ((fault(1), clear(1)), (port(1, 0), port(1, 1)), (unplug(1), plug(1, 3))):
            ready = (*LIT, *wished(1, 20000), settle(), *between, settle(), draw(1, 3))
            self.assertEqual(then(ready, deliver(0), device(1), look(1)), [
                [0, 0], [0, 3, 2, 0, 15400, 3, 0], lit([(0, 15400)], (0, 15400), session=2)])

    def test_with_a_smaller_number_is_nothing(self):
        self.assertEqual(then(TWO_GRANTS, *peeks(3), deliver(1), device(1), deliver(0), device(1), *peeks(2)), [
            [0, 0, 1, 1, 1, 20000], [0, 0, 1, 1, 2, 25000], [-1], [0, 2], [0, 3, 1, 2, 25000, 0, 2], [0, 1],
            [0, 3, 1, 2, 25000, 0, 2], [0, 1, 1, 1, 2], [-1]])

    def test_with_the_same_number_is_taken_again(self):
        ready = (*LIT, *wished(1, 20000), settle(), double(0), deliver(0), draw(1, 18000))
        self.assertEqual(then(ready, deliver(0), device(1), *peeks(3)), [
            [0, 2], [0, 3, 1, 1, 20000, 18000, 1], [0, 1, 1, 1, 1], [0, 1, 1, 1, 1], [-1]])

    def test_with_number_zero_is_taken(self):
        self.assertEqual(then((*LIT, again(1)), deliver(0), device(1), peek(0), deliver(0), look(1)), [
            [0, 1], [0, 3, 1, 0, 15400, 0, 0], [0, 1, 1, 1, 0], [0, 0], lit([(0, 15400)], (0, 15400))])

    def test_in_a_full_bag_the_taken_message_has_room(self):
        ready = (begin(1, 1), plug(0, 1), settle(), again(0))
        self.assertEqual(then(ready, deliver(0), peek(0), state()), [[0, 1], [0, 1, 0, 1, 0], bag_of(1)])
        ready = (begin(2, 3), plug(1, 3), settle(), wish(1, 1), again(1), wish(1, 2))
        self.assertEqual(then(ready, deliver(1), *peeks(4)), [
            [0, 3], [0, 2, 1, 1, 1, 1], [0, 2, 1, 1, 2, 2], [0, 1, 1, 1, 0], [-1]])


class TakenMessage(unittest.TestCase):
    def test_of_the_latest_grant_leaves_that_alone(self):
        self.assertEqual(then((*TWO_GRANTS, deliver(1)), deliver(1), look(1)),
                         [[0, 1], lit([(2, 25000)], (2, 25000))])

    def test_of_one_between_leaves_it_and_the_later(self):
        self.assertEqual(then((*TWO_GRANTS, deliver(0)), deliver(1), look(1)),
                         [[0, 1], lit([(1, 20000), (2, 25000)], (2, 25000))])

    def test_of_a_smaller_number_than_all_grants_is_nothing(self):
        ready = (*TWO_GRANTS, deliver(0), deliver(0), deliver(1))
        self.assertEqual(then(ready, peek(0), deliver(0), look(1)),
                         [[0, 1, 1, 1, 1], [0, 0], lit([(2, 25000)], (2, 25000))])

    def test_a_second_time_is_nothing(self):
        ready = (*TWO_GRANTS, deliver(1), double(1), deliver(1))
        self.assertEqual(then(ready, deliver(1), look(1)), [[0, 1], lit([(2, 25000)], (2, 25000))])

    def test_with_the_port_off_is_nothing(self):
        for off, shown in ((port(1, 0), seen(enabled=0, session=1)), (unplug(1), seen(session=1))):
            self.assertEqual(then((*TWO_GRANTS, deliver(1), off), deliver(1), look(1)), [[0, 1], shown])

    def test_of_an_earlier_session_is_nothing(self):
        ready = (*LIT, *wished(1, 20000), settle(), deliver(0), fault(1), clear(1), settle(), wish(1, 20000),
                 deliver(1), settle(), lose(1))
        both = lit([(0, 15400), (1, 20000)], (1, 20000), session=2)
        self.assertEqual(then(ready, look(1), peek(0), deliver(0), look(1)), [both, [0, 1, 1, 1, 1], [0, 0], both])

    def test_leaves_the_device_as_it_is(self):
        ready = (*TWO_GRANTS, deliver(1), draw(1, 24000))
        self.assertEqual(then(ready, deliver(1), device(1)), [[0, 1], [0, 3, 1, 2, 25000, 24000, 2]])


class WishMessage(unittest.TestCase):
    def test_is_the_ports_wish(self):
        for amount in (0, 1, 15400, 100000):
            self.assertEqual(then((*LIT, wish(1, amount)), deliver(0), look(1)),
                             [[0, 0], lit([(0, 15400)], (1, amount))])

    def test_with_a_smaller_number_is_nothing(self):
        self.assertEqual(then((*ASKED, deliver(1)), deliver(0), look(1), deliver(0), look(1)), [
            [0, 1], lit([(0, 15400)], (2, 17000)), [0, 0], lit([(0, 15400)], (3, 18000))])

    def test_with_the_same_number_is_nothing(self):
        shown = lit([(0, 15400)], (1, 16000))
        self.assertEqual(then((*LIT, wish(1, 16000), double(0)), deliver(0), look(1), deliver(0), look(1)),
                         [[0, 1], shown, [0, 0], shown])

    def test_with_the_port_off_is_nothing(self):
        for off, shown in ((port(1, 0), seen(enabled=0, session=1)), (fault(1), seen(faulty=1, session=1)),
                           (unplug(1), seen(session=1))):
            self.assertEqual(then((*ASKED, off), deliver(2), look(1)), [[0, 2], shown])

    def test_of_an_earlier_session_is_nothing(self):
        ready = (*ASKED, fault(1), clear(1), settle())
        self.assertEqual(then(ready, deliver(2), look(1), device(1)), [
            [0, 2], lit([(0, 15400)], (0, 15400), session=2), [0, 3, 2, 0, 15400, 0, 0]])


class Lose(unittest.TestCase):
    def test_from_the_front_the_middle_and_the_end(self):
        first, second, third = [0, 2, 1, 1, 1, 16000], [0, 2, 1, 1, 2, 17000], [0, 2, 1, 1, 3, 18000]
        for k, left in ((0, [second, third]), (1, [first, third]), (2, [first, second])):
            self.assertEqual(then(ASKED, lose(k), *peeks(3)), [[0], *left, [-1]])

    def test_nothing_is_handled(self):
        unchanged = lit([(0, 15400)], (0, 15400))
        self.assertEqual(then(ASKED, lose(0), lose(0), lose(0), look(1), state()), [[0]] * 3 + [unchanged, bag_of(0)])
        self.assertEqual(then((*LIT, *wished(1, 20000), settle()), lose(0), state(), device(1)),
                         [[0], bag_of(0), [0, 3, 1, 0, 15400, 0, 1]])

    def test_makes_room(self):
        ready = (begin(1, 1), plug(0, 1), settle(), again(0))
        self.assertEqual(then(ready, wish(0, 1), lose(0), wish(0, 1)), [[-4], [0], [0, 1]])

    def test_beyond_the_bag(self):
        self.assertEqual(then(ASKED, lose(3), lose(-1), state()), [[-1], [-1], bag_of(3)])
        self.assertEqual(then(LIT, lose(0), lose(-1)), [[-1], [-1]])


class Double(unittest.TestCase):
    def test_the_copy_goes_to_the_end(self):
        first, second, third = [0, 2, 1, 1, 1, 16000], [0, 2, 1, 1, 2, 17000], [0, 2, 1, 1, 3, 18000]
        for k, copy in ((0, first), (1, second), (2, third)):
            self.assertEqual(then(ASKED, double(k), *peeks(5)), [[0], first, second, third, copy, [-1]])

    def test_each_of_the_three_messages(self):
        ready = (*LIT, again(1), deliver(0), wish(1, 9))
        self.assertEqual(then(ready, double(0), double(1), *peeks(4)), [
            [0], [0], [0, 1, 1, 1, 0], [0, 2, 1, 1, 1, 9], [0, 1, 1, 1, 0], [0, 2, 1, 1, 1, 9]])
        self.assertEqual(then((*LIT, again(1)), double(0), *peeks(2)), [[0]] + [[0, 0, 1, 1, 0, 15400]] * 2)

    def test_a_full_bag(self):
        self.assertEqual(then(ASKED, double(0), double(0), double(0), state(), lose(0), double(0)),
                         [[0], [0], [-4], bag_of(5), [0], [0]])
        self.assertEqual(then((begin(1, 1), plug(0, 1), settle(), again(0)), double(0), state()), [[-4], bag_of(1)])

    def test_beyond_the_bag_goes_ahead_of_a_full_bag(self):
        full = (*ASKED, double(0), double(0))
        self.assertEqual(then(full, double(5), double(-1), double(4)), [[-1], [-1], [-4]])
        self.assertEqual(then(LIT, double(0)), [[-1]])


class Calm(unittest.TestCase):
    def test_an_empty_bag(self):
        self.assertEqual(then(LIT, calm(), calm(), state()), [[0, 0], [0, 0], bag_of(0)])

    def test_wishes_from_the_oldest_on(self):
        self.assertEqual(then(ASKED, calm(), look(1), state()),
                         [[0, 3], lit([(0, 15400)], (3, 18000)), bag_of(0)])

    def test_grants_and_the_taken_messages_they_put(self):
        self.assertEqual(then(TWO_GRANTS, calm(), look(1), device(1), state()), [
            [0, 4], lit([(2, 25000)], (2, 25000)), [0, 3, 1, 2, 25000, 0, 2], bag_of(0)])

    def test_the_oldest_goes_first(self):
        # The older grant, now behind the newer, comes too late to be taken.
        ready = (*TWO_GRANTS, double(0), lose(0))
        self.assertEqual(then(ready, calm(), device(1)), [[0, 3], [0, 3, 1, 2, 25000, 0, 2]])

    def test_messages_that_are_nothing_count(self):
        self.assertEqual(then((*TWO_GRANTS, unplug(1)), calm(), state()), [[0, 2], bag_of(0)])

    def test_a_full_bag(self):
        ready = (begin(1, 1), plug(0, 1), settle(), again(0))
        self.assertEqual(then(ready, calm(), again(0), calm()), [[0, 2], [0], [0, 2]])

    def test_a_great_bag(self):
        plugs = [plug(p, 1) for p in range(48)]
        asked = []
        for p in range(48):
            asked += wished(p, 5000)
        ready = (begin(48, 10000, 0, (10000000,)), *plugs, settle(), *asked, *[settle()] * 220)
        self.assertEqual(then(ready, state(), calm(), state()), [bag_of(10000), [0, 20000], bag_of(0)])

    def test_no_world(self):
        self.assertEqual(run(calm()), [[-9]])


if __name__ == "__main__":
    unittest.main()
