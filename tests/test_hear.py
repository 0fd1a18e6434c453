"""Promise 4, and what 'offered' does."""

import unittest

from nearroutes.session import Session
from tests.helper import (ACROSS, FAR_NET, LAST_HOST, NEAR, OTHER, OUR, TIME_END, TOP, UP, UP_TWO, begin, down,
                          filling, hear, ip, link, message, nets, said, said_after, told)

ONE = message((FAR_NET[0], FAR_NET[1], 3))


class Refusals(unittest.TestCase):
    def test_links_above_3(self):
        for i in (4, 5, TOP):
            self.assertEqual(said_after(UP, hear(i, NEAR, ONE)), [-1])

    def test_neighbours(self):
        for neighbour in (0, LAST_HOST + 1, 2 ** 32, 2 ** 32 + NEAR, TOP):
            self.assertEqual(said_after(UP, hear(0, neighbour, ONE)), [-1])

    def test_neighbours_at_both_ends(self):
        self.assertEqual(said(begin(), link(0, 2, 30), hear(0, 1, ONE)), [0, 0, 1])
        self.assertEqual(said(begin(), link(0, LAST_HOST - 1, 8), hear(0, LAST_HOST, ONE)), [0, 0, 1])

    def test_down(self):
        self.assertEqual(said_after(UP, hear(1, NEAR, ONE), hear(2, NEAR, ONE), hear(3, NEAR, ONE)), [-4, -4, -4])
        self.assertEqual(said_after(UP, down(0), hear(0, NEAR, ONE)), [0, -4])

    def test_of_another_network(self):
        for neighbour in (1, ip(10, 0, 1, 0), ip(10, 0, 1, 2), ip(9, 255, 255, 255), LAST_HOST):
            self.assertEqual(said_after(UP, hear(0, neighbour, ONE)), [-2])
        for neighbour in (ip(10), ip(10, 0, 0, 2), ip(10, 0, 0, 255)):
            self.assertEqual(said_after(UP, hear(0, neighbour, ONE)), [1])

    def test_of_another_links_network(self):
        self.assertEqual(said_after(UP_TWO, hear(0, ACROSS, ONE), hear(1, NEAR, ONE), hear(1, ACROSS, ONE)),
                         [-2, -2, 1])

    def test_our_address(self):
        self.assertEqual(said_after(UP, hear(0, OUR, ONE)), [-2])

    def test_our_address_on_another_link_is_a_neighbour(self):
        self.assertEqual(said_after(UP, link(1, NEAR, 8), hear(0, NEAR, ONE), hear(1, NEAR, ONE), hear(1, OUR, ONE)),
                         [0, 1, -2, 0])

    def test_networks_of_1_and_31_bits(self):
        self.assertEqual(said(begin(), link(0, 1, 1), hear(0, 2 ** 31 - 1, ONE), hear(0, 2 ** 31, ONE)),
                         [0, 0, 1, -2])
        self.assertEqual(said(begin(), link(0, 2, 31), hear(0, 1, ONE), hear(0, 2, ONE), hear(0, 4, ONE),
                              hear(0, 3, ONE)), [0, 0, -2, -2, -2, 1])

    def test_no_message(self):
        self.assertEqual(said_after(UP, hear(0, NEAR, []), hear(0, NEAR, [0] * 2048)), [-3, -3])


class Order(unittest.TestCase):
    def test_numbers_come_first(self):
        self.assertEqual(said_after(UP, hear(4, OUR, []), hear(1, 0, []), hear(0, LAST_HOST + 1, [])), [-1, -1, -1])

    def test_being_down_comes_before_the_neighbour(self):
        self.assertEqual(said_after(UP, hear(1, OUR, []), hear(1, ACROSS, ONE)), [-4, -4])

    def test_the_neighbour_comes_before_the_message(self):
        self.assertEqual(said_after(UP, hear(0, OUR, []), hear(0, ACROSS, [1]), hear(0, NEAR, [1])), [-2, -2, -3])


class Unchanged(unittest.TestCase):
    def test_a_refused_message_offers_nothing(self):
        for neighbour, octets in ((OUR, ONE), (ACROSS, ONE), (0, ONE), (NEAR, ONE + [0])):
            self.assertLess(said_after(UP, hear(0, neighbour, octets))[0], 0)
            self.assertEqual(said_after(UP, hear(0, neighbour, octets), hear(0, NEAR, ONE))[1], 1)

    def test_nothing_of_a_message_that_is_wrong_at_its_end(self):
        wrong = message((FAR_NET[0], FAR_NET[1], 3), (ip(10, 0, 9, 1), 24, 3))
        self.assertEqual(said_after(UP, hear(0, NEAR, wrong), hear(0, NEAR, ONE)), [-3, 1])
        loses = message((FAR_NET[0], FAR_NET[1], 16), (ip(10, 0, 9), 24, 17))
        self.assertEqual(said_after(UP, hear(0, NEAR, ONE), hear(0, NEAR, loses), hear(0, NEAR, ONE)), [1, -3, 0])


class NewNetwork(unittest.TestCase):
    def test_distances(self):
        for far in (1, 2, 14, 15):
            self.assertEqual(said_after(UP, told(far), told(far)), [1, 0])

    def test_one_out_of_reach_is_not_kept(self):
        self.assertEqual(said_after(UP, told(16), told(15, OTHER)), [0, 1])

    def test_all_bits(self):
        for bits in range(33):
            network = (ip(192, 168, 1, 1) >> (32 - bits) << (32 - bits), bits)
            self.assertEqual(said_after(UP, told(4, network=network), told(4, network=network)), [1, 0])

    def test_many_in_one_message(self):
        for many in (1, 2, 63, 64):
            self.assertEqual(said_after(UP, hear(0, NEAR, message(*nets(0, many)))), [many])

    def test_the_same_address_of_other_bits(self):
        offers = [(0, bits, 5) for bits in range(33)]
        self.assertEqual(said_after(UP, hear(0, NEAR, message(*offers))), [33])

    def test_256_at_most(self):
        self.assertEqual(said_after(UP, *filling(255), told(1), told(1)), [64, 64, 64, 63, 0, 0])
        self.assertEqual(said_after(UP, *filling(256)), [64, 64, 64, 63])

    def test_the_last_place(self):
        self.assertEqual(said_after(UP, *filling(254), told(1), told(2)), [64, 64, 64, 62, 1, 1])

    def test_full_ones_still_change(self):
        nearer = hear(0, OTHER, message(*nets(0, 64, 1)))
        farther = hear(0, NEAR, message(*nets(0, 64, 7)))
        self.assertEqual(said_after(UP, *filling(255), farther, nearer)[-2:], [64, 64])

    def test_lost_ones_have_their_places(self):
        lost = hear(0, NEAR, message(*nets(0, 64, 16)))
        self.assertEqual(said_after(UP, *filling(255), lost, told(1))[-2:], [64, 0])

    def test_what_is_kept_of_it(self):
        for now in (0, 4000, TIME_END - 1):
            session = Session()
            session.begin(now)
            session.bring_up(3, OUR, 24)
            session.hear(3, NEAR, ONE)
            route = session.table.by_network[FAR_NET]
            self.assertEqual(route.course(), (3, 3, NEAR))
            self.assertEqual((route.good_till, route.changed), (now + 180000, True))


class KnownNetwork(unittest.TestCase):
    def test_a_links_own(self):
        own = (ip(10), 24)
        self.assertEqual(said_after(UP_TWO, told(1, network=own), told(16, network=own), told(1, ACROSS, 1, own),
                                    told(16, ACROSS, 1, own)), [0, 0, 0, 0])

    def test_the_same_neighbour_moves_it_nearer_and_farther(self):
        self.assertEqual(said_after(UP, told(8), told(7), told(9), told(9), told(15), told(1)), [1, 1, 1, 0, 1, 1])

    def test_the_same_neighbour_loses_it(self):
        self.assertEqual(said_after(UP, told(8), told(16), told(16)), [1, 1, 0])

    def test_the_same_neighbour_finds_it_again_at_once(self):
        for far in (1, 8, 15):
            self.assertEqual(said_after(UP, told(8), told(16), told(far), told(far)), [1, 1, 1, 0])

    def test_another_one_must_be_nearer(self):
        self.assertEqual(said_after(UP, told(8), told(9, OTHER), told(8, OTHER), told(16, OTHER), told(8)),
                         [1, 0, 0, 0, 0])
        self.assertEqual(said_after(UP, told(8), told(7, OTHER), told(7), told(7, OTHER)), [1, 1, 0, 0])

    def test_another_one_of_1_and_15(self):
        self.assertEqual(said_after(UP, told(2), told(1, OTHER), told(1)), [1, 1, 0])
        self.assertEqual(said_after(UP, told(15), told(15, OTHER), told(14, OTHER), told(15)), [1, 0, 1, 0])

    def test_the_same_number_on_another_link_is_another_neighbour(self):
        # NEAR is of both links' networks.
        start = UP + [link(1, OUR, 8)]
        self.assertEqual(said_after(start, told(8), told(9, NEAR, 1), told(16, NEAR, 1), told(7, NEAR, 1), told(16),
                                    told(16, NEAR, 1)), [1, 0, 0, 1, 0, 1])

    def test_others_wait_where_it_is_lost(self):
        start = UP_TWO + [told(8), told(16)]
        self.assertEqual(said_after(start, told(1, OTHER), told(15, OTHER), told(16, OTHER), told(1, ACROSS, 1),
                                    told(8)), [0, 0, 0, 0, 1])

    def test_others_wait_where_its_link_went_down(self):
        start = UP_TWO + [told(8), down(0)]
        self.assertEqual(said_after(start, told(1, ACROSS, 1), link(0, OUR, 24), told(1, OTHER), told(8)),
                         [0, 0, 0, 1])

    def test_found_again_it_yields_to_nearer_ones(self):
        start = UP + [told(8), told(16), told(8)]
        self.assertEqual(said_after(start, told(8, OTHER), told(7, OTHER)), [0, 1])


class Counted(unittest.TestCase):
    def both(self, first, second):
        return hear(0, NEAR, message((FAR_NET[0], FAR_NET[1], first), (FAR_NET[0], FAR_NET[1], second)))

    def test_a_network_told_twice_counts_once(self):
        self.assertEqual(said_after(UP, self.both(3, 4)), [1])
        self.assertEqual(said_after(UP, told(3), self.both(4, 5)), [1, 1])

    def test_one_that_is_as_before_at_the_end_does_not_count(self):
        self.assertEqual(said_after(UP, told(3), self.both(4, 3), self.both(16, 3)), [1, 0, 0])

    def test_the_last_one_holds(self):
        self.assertEqual(said_after(UP, self.both(4, 5), told(5), told(4)), [1, 0, 1])

    def test_one_that_is_new_and_lost_counts(self):
        self.assertEqual(said_after(UP, self.both(3, 16), told(16)), [1, 0])

    def test_another_neighbour_or_link_alone(self):
        start = UP_TWO + [told(5)]
        self.assertEqual(said_after(start, told(4, OTHER), told(3, ACROSS, 1)), [1, 1])

    def test_the_same_distance_by_another_neighbour(self):
        # Farther by its own, then nearer by another one: the distance is that of before.
        self.assertEqual(said_after(UP, told(5), told(6), told(5, OTHER), told(5)), [1, 1, 1, 0])

    def test_those_that_stay_do_not_count(self):
        self.assertEqual(said_after(UP, hear(0, NEAR, message(*nets(0, 10))),
                                    hear(0, NEAR, message(*(nets(0, 9) + nets(9, 1, 2) + nets(10, 4) + nets(20, 3, 16))))),
                         [10, 5])


if __name__ == "__main__":
    unittest.main()
