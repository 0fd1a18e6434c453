"""Promise 3."""

import unittest

from nearroutes.session import Session
from tests.helper import (ACROSS, NEAR, OTHER, OUR, TOP, UP, UP_TWO, begin, down, filling, hear, ip, link, message,
                          nets, said, said_after, told)

ANOTHER_NET = (ip(172, 32), 12)


class Refusals(unittest.TestCase):
    def test_above_3(self):
        for i in (4, 5, 2 ** 32, TOP):
            self.assertEqual(said_after(UP, down(i)), [-1])

    def test_down_at_first_and_twice(self):
        for i in range(4):
            self.assertEqual(said(begin(), down(i), link(i, OUR, 24), down(i), down(i)), [0, -4, 0, 0, -4])

    def test_a_refusal_changes_nothing(self):
        self.assertEqual(said_after(UP, told(3), down(4), down(1), told(3), link(0, OUR, 24)), [1, -1, -4, 0, -4])


class Lost(unittest.TestCase):
    def test_nothing_is_heard_then(self):
        self.assertEqual(said_after(UP, down(0), told(3)), [0, -4])

    def test_others_stay_up(self):
        self.assertEqual(said_after(UP_TWO, down(1), told(3), told(3, ACROSS, 1), down(0)), [0, 1, -4, 0])

    def test_routes_by_it_are_lost(self):
        start = UP_TWO + [told(3), down(0), link(0, OUR, 24)]
        self.assertEqual(said_after(start, told(1, ACROSS, 1), told(1, OTHER), told(3)), [0, 0, 1])

    def test_routes_of_all_its_neighbours_are_lost(self):
        start = UP_TWO + [told(3), told(3, OTHER, network=ANOTHER_NET), down(0)]
        self.assertEqual(said_after(start, told(1, ACROSS, 1), told(1, ACROSS, 1, ANOTHER_NET)), [0, 0])

    def test_its_own_is_lost(self):
        own = (ip(10), 24)
        self.assertEqual(said_after(UP_TWO, down(0), told(1, ACROSS, 1, own), told(15, ACROSS, 1, own)), [0, 0, 0])

    def test_routes_by_others_are_not_lost(self):
        start = UP_TWO + [told(3, ACROSS, 1), told(3, network=ANOTHER_NET), down(0)]
        self.assertEqual(said_after(start, told(3, ACROSS, 1), told(2, ACROSS, 1)), [0, 1])

    def test_lost_ones_keep_their_places(self):
        self.assertEqual(said_after(UP, *filling(255), down(0), link(1, ip(11, 0, 0, 1), 8), link(1, OUR, 24))[-3:],
                         [0, -5, 0])

    def test_all_of_256_are_lost(self):
        start = UP + filling(255) + [down(0), link(0, OUR, 24)]
        self.assertEqual(said_after(start, hear(0, OTHER, message(*nets(0, 64, 1))), *filling(255)),
                         [0, 64, 64, 64, 63])

    def test_how_they_are_lost(self):
        session = Session()
        session.begin(5000)
        session.bring_up(0, OUR, 24)
        session.bring_up(1, ip(10, 0, 1, 1), 24)
        session.hear(0, NEAR, message((ip(11), 8, 15)))
        session.hear(1, ACROSS, message((ip(12), 8, 15)))
        for route in session.table.by_network.values():
            route.changed = False
        session.now = 7000
        session.take_down(0)
        routes = session.table.by_network
        for network, neighbour in (((ip(10), 24), 0), ((ip(11), 8), NEAR)):
            route = routes[network]
            self.assertEqual(route.course(), (16, 0, neighbour))
            self.assertEqual((route.free_from, route.forgotten_at, route.changed), (67000, 127000, True))
        for network, course in (((ip(10, 0, 1), 24), (0, 1, 0)), ((ip(12), 8), (15, 1, ACROSS))):
            self.assertEqual(routes[network].course(), course)
            self.assertIs(routes[network].changed, False)

    def test_what_is_out_of_reach_is_not_lost_again(self):
        session = Session()
        session.begin(0)
        session.bring_up(0, OUR, 24)
        session.hear(0, NEAR, message((ip(11), 8, 2)))
        session.hear(0, NEAR, message((ip(11), 8, 16)))
        route = session.table.by_network[(ip(11), 8)]
        route.changed = False
        session.now = 50
        session.take_down(0)
        self.assertEqual((route.free_from, route.forgotten_at, route.changed), (60000, 120000, False))


if __name__ == "__main__":
    unittest.main()
