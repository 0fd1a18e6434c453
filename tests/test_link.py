"""Promise 2."""

import unittest

from nearroutes.session import Session
from tests.helper import (FAR_NET, LAST_HOST, NEAR, OTHER, OUR, TOP, UP, UP_TWO, begin, down, filling, hear, ip,
                          link, message, nets, said, said_after, told)

OUR_NET = (ip(10), 24)


class Numbers(unittest.TestCase):
    def first(self, *calls):
        return said(begin(), *calls)[1]

    def test_links_0_to_3(self):
        for i in range(4):
            self.assertEqual(said(begin(), link(i, OUR, 24), down(i)), [0, 0, 0])
        for i in (4, 5, 2 ** 32, TOP):
            self.assertEqual(self.first(link(i, OUR, 24)), -1)

    def test_addresses(self):
        for address in (1, 2, 2 ** 31, LAST_HOST - 1, LAST_HOST):
            self.assertEqual(self.first(link(0, address, 24)), 0)
        for address in (0, LAST_HOST + 1, 2 ** 32, 2 ** 32 + 1, TOP):
            self.assertEqual(self.first(link(0, address, 24)), -1)

    def test_bits(self):
        for bits in (1, 2, 24, 30, 31):
            self.assertEqual(self.first(link(0, OUR, bits)), 0)
        for bits in (0, 32, 33, 2 ** 32, TOP):
            self.assertEqual(self.first(link(0, OUR, bits)), -1)

    def test_an_address_may_be_the_first_or_last_of_its_network(self):
        self.assertEqual(self.first(link(0, ip(10), 8)), 0)
        self.assertEqual(self.first(link(0, ip(10, 255, 255, 255), 8)), 0)

    def test_all_four_may_be_up(self):
        links = [link(i, ip(10, 0, i, 1), 24) for i in range(4)]
        self.assertEqual(said(begin(), *links), [0, 0, 0, 0, 0])


class Refusals(unittest.TestCase):
    def test_one_that_is_up(self):
        self.assertEqual(said_after(UP, link(0, OUR, 24), link(0, ip(10, 9, 9, 9), 24)), [-4, -4])

    def test_one_that_was_down_again_may_come_up(self):
        self.assertEqual(said_after(UP, down(0), link(0, OUR, 24), link(0, OUR, 24)), [0, 0, -4])

    def test_a_network_of_another_one(self):
        for i in (1, 2, 3):
            self.assertEqual(said_after(UP, link(i, NEAR, 24), link(i, OUR, 24)), [-2, -2])
        self.assertEqual(said(begin(), link(3, OUR, 24), link(0, NEAR, 24)), [0, 0, -2])

    def test_each_end_of_a_network_of_another_one(self):
        self.assertEqual(said_after(UP, link(1, ip(10), 24), link(1, ip(10, 0, 0, 255), 24), link(1, ip(10, 0, 1), 24)),
                         [-2, -2, 0])
        self.assertEqual(said_after(UP, link(1, ip(9, 255, 255, 255), 24)), [0])

    def test_networks_of_few_and_of_many_bits(self):
        self.assertEqual(said(begin(), link(0, 1, 1), link(1, 2 ** 31 - 1, 1), link(1, 2 ** 31, 1)), [0, 0, -2, 0])
        self.assertEqual(said(begin(), link(0, 2, 31), link(1, 3, 31), link(1, 4, 31)), [0, 0, -2, 0])

    def test_the_same_address_of_other_bits_is_another_network(self):
        self.assertEqual(said_after(UP, link(1, OUR, 23), link(2, OUR, 25), link(3, ip(10), 8)), [0, 0, 0])

    def test_a_network_of_one_that_is_down(self):
        self.assertEqual(said_after(UP, down(0), link(1, NEAR, 24), link(0, OUR, 24)), [0, 0, -2])

    def test_no_place(self):
        self.assertEqual(said_after(UP, *filling(255))[-1], 63)
        self.assertEqual(said_after(UP, *filling(255), link(1, ip(11, 0, 0, 1), 8))[-1], -5)

    def test_the_last_place(self):
        self.assertEqual(said_after(UP, *filling(254), link(1, ip(11, 0, 0, 1), 8), link(2, ip(12, 0, 0, 1), 8))[-2:],
                         [0, -5])

    def test_no_place_is_wanted_where_there_is_such_a_route(self):
        known = hear(0, NEAR, message((ip(11), 8, 4)))
        self.assertEqual(said_after(UP, known, *filling(254), link(1, ip(12, 0, 0, 1), 8), link(1, ip(11, 0, 0, 1), 8))
                         [-2:], [-5, 0])

    def test_lost_routes_have_their_places(self):
        again = [hear(0, NEAR, message(*nets(start, 64, 16))) for start in (0, 64, 128)]
        self.assertEqual(said_after(UP, *filling(255), *again, link(1, ip(11, 0, 0, 1), 8))[-4:], [64, 64, 64, -5])


class Order(unittest.TestCase):
    def test_numbers_come_before_being_up(self):
        self.assertEqual(said_after(UP, link(0, 0, 24), link(0, OUR, 32), link(0, OUR, 0)), [-1, -1, -1])

    def test_numbers_come_before_the_network(self):
        self.assertEqual(said_after(UP, link(4, OUR, 24)), [-1])

    def test_numbers_come_before_the_place(self):
        self.assertEqual(said_after(UP, *filling(255), link(4, ip(11, 0, 0, 1), 8), link(1, ip(11, 0, 0, 1), 0))[-2:],
                         [-1, -1])

    def test_being_up_comes_before_the_network(self):
        self.assertEqual(said_after(UP_TWO, link(1, NEAR, 24), link(0, ip(10, 0, 1, 9), 24)), [-4, -4])

    def test_being_up_comes_before_the_place(self):
        self.assertEqual(said_after(UP, *filling(255), link(0, ip(11, 0, 0, 1), 8))[-1], -4)

    def test_a_network_of_another_one_where_there_is_no_place(self):
        self.assertEqual(said_after(UP, *filling(255), link(1, NEAR, 24))[-1], -2)


class Unchanged(unittest.TestCase):
    def test_after_a_refusal_for_its_numbers(self):
        self.assertEqual(said(begin(), link(0, OUR, 32), link(0, 0, 8), link(4, OUR, 8), down(0)), [0, -1, -1, -1, -4])

    def test_one_that_is_up_keeps_its_network(self):
        self.assertEqual(said_after(UP, link(0, ip(11, 0, 0, 1), 24), told(3, ip(11, 0, 0, 2)), told(3, NEAR)),
                         [-4, -2, 1])

    def test_after_a_refusal_for_its_network(self):
        self.assertEqual(said_after(UP, link(1, NEAR, 24), down(1), told(3, NEAR)), [-2, -4, 1])

    def test_after_a_refusal_for_the_place(self):
        self.assertEqual(said_after(UP, *filling(255), link(1, ip(11, 0, 0, 1), 8), down(1))[-2:], [-5, -4])
        session = Session()
        session.begin(0)
        session.bring_up(0, OUR, 24)
        for k in range(255):
            session.table.put_own((k, 32), 0, 0)
        before = list(session.table.by_network)
        self.assertEqual(session.bring_up(1, ip(11, 0, 0, 1), 8), -5)
        self.assertEqual(list(session.table.by_network), before)


class OwnRoute(unittest.TestCase):
    def route(self, session, network):
        return session.table.by_network[network]

    def test_it_is_0_far_without_a_neighbour_and_changed(self):
        session = Session()
        session.begin(0)
        session.bring_up(2, OUR, 24)
        self.assertEqual(list(session.table.by_network), [OUR_NET])
        self.assertEqual(self.route(session, OUR_NET).course(), (0, 2, 0))
        self.assertIs(self.route(session, OUR_NET).changed, True)

    def test_it_takes_the_place_of_a_learned_one(self):
        session = Session()
        session.begin(0)
        session.bring_up(0, OUR, 24)
        session.hear(0, NEAR, message((ip(11), 8, 1)))
        self.route(session, (ip(11), 8)).changed = False
        self.assertEqual(session.bring_up(1, ip(11, 1, 1, 1), 8), 0)
        self.assertEqual(self.route(session, (ip(11), 8)).course(), (0, 1, 0))
        self.assertIs(self.route(session, (ip(11), 8)).changed, True)

    def test_nobody_moves_it(self):
        network = (ip(11), 8)
        start = UP + [told(1, network=network), link(1, ip(11, 0, 0, 1), 8)]
        self.assertEqual(said_after(start, told(1, network=network), told(16, network=network),
                                    told(1, OTHER, network=network), told(1, ip(11, 0, 0, 2), 1, network)),
                         [0, 0, 0, 0])

    def test_it_takes_the_place_of_a_lost_one(self):
        start = UP + [down(0), link(1, NEAR, 24)]
        self.assertEqual(said_after(start, told(1, OUR, 1, OUR_NET), told(16, OUR, 1, OUR_NET)), [0, 0])
        session = Session()
        session.begin(0)
        session.bring_up(0, OUR, 24)
        session.take_down(0)
        self.route(session, OUR_NET).changed = False
        session.bring_up(1, NEAR, 24)
        self.assertEqual(self.route(session, OUR_NET).course(), (0, 1, 0))
        self.assertIs(self.route(session, OUR_NET).changed, True)

    def test_a_wider_or_narrower_network_is_another_route(self):
        self.assertEqual(said_after(UP, told(1, network=(ip(10), 23)), told(1, network=(ip(10), 25)),
                                    told(1, network=OUR_NET)), [1, 1, 0])

    def test_others_stay_as_they_are(self):
        self.assertEqual(said_after(UP, told(3), link(1, ip(11, 0, 0, 1), 8), told(3), told(3, network=FAR_NET)),
                         [1, 0, 0, 0])


if __name__ == "__main__":
    unittest.main()
