"""Promise 7: routes, and when a tick is due."""

import unittest

from tests.helper import (ACROSS, DUE, FAR_NET, NEAR, NET_0, NET_1, OTHER, OUR, ROUTES, TIME_END, UP, UP_TWO, begin,
                          down, filling, hear, ip, link, listed, message, nets, said, said_after, tick, told)

OWN_0 = (NET_0[0], NET_0[1], 0, 0, 0)
OWN_1 = (NET_1[0], NET_1[1], 0, 1, 0)


class Routes(unittest.TestCase):
    def test_no_begin(self):
        self.assertEqual(said(begin(TIME_END), ROUTES, begin(TIME_END), ROUTES, begin(), ROUTES),
                         [-1, -6, -1, -6, 0, 0])

    def test_none(self):
        self.assertEqual(said(begin(), ROUTES), [0, 0])
        self.assertEqual(said_after(UP, begin(), ROUTES), [0, 0])

    def test_own_and_learned_ones(self):
        start = UP_TWO + [told(3)]
        self.assertEqual(said_after(start, ROUTES), [[3, ip(10), 24, 0, 0, 0, ip(10, 0, 1), 24, 0, 1, 0,
                                                      ip(172, 16), 12, 3, 0, NEAR]])

    def test_lost_ones_keep_link_and_neighbour(self):
        start = UP_TWO + [told(3), told(4, ACROSS, 1, (ip(11), 8)), told(16), down(1)]
        self.assertEqual(said_after(start, ROUTES),
                         [listed(OWN_0, (NET_1[0], NET_1[1], 16, 1, 0), (ip(11), 8, 16, 1, ACROSS),
                                 (FAR_NET[0], FAR_NET[1], 16, 0, NEAR))])

    def test_in_order_by_the_address_then_by_the_bits(self):
        networks = [(0, 0), (0, 1), (0, 32), (1, 32), (ip(9), 8), (ip(10), 8), (ip(10), 32), (ip(10, 0, 0, 1), 32),
                    (2 ** 31, 1), (2 ** 31, 2), (2 ** 32 - 2, 31), (2 ** 32 - 2, 32), (2 ** 32 - 1, 32)]
        due = sorted([(address, bits, 5, 0, NEAR) for address, bits in networks] + [OWN_0])
        for order in (networks, networks[::-1], networks[1::2] + networks[::2]):
            start = UP + [told(5, network=network) for network in order]
            self.assertEqual(said_after(start, ROUTES), [listed(*due)])

    def test_what_takes_the_place_of_a_route_stands_in_its_place(self):
        start = UP + [told(3), told(3, network=(ip(200), 8)), told(2, OTHER), down(0), link(0, OUR, 24)]
        self.assertEqual(said_after(start, ROUTES), [listed(OWN_0, (FAR_NET[0], FAR_NET[1], 16, 0, OTHER),
                                                            (ip(200), 8, 16, 0, NEAR))])

    def test_1_and_256(self):
        self.assertEqual(said_after(UP, ROUTES), [listed(OWN_0)])
        due = [(address, bits, 1, 0, NEAR) for address, bits, far in nets(0, 255)]
        self.assertEqual(said_after(UP + filling(255), ROUTES), [listed(OWN_0, *due)])
        self.assertEqual(said_after(UP + filling(256), ROUTES), [listed(OWN_0, *due)])

    def test_nothing_is_changed(self):
        start = UP + [told(3)]
        self.assertEqual(said_after(start, ROUTES, ROUTES, DUE, tick(1000))[1:],
                         said_after(start, ROUTES, DUE, tick(1000)))


class Due(unittest.TestCase):
    def test_no_begin(self):
        self.assertEqual(said(begin(TIME_END), DUE, begin(), DUE), [-1, -6, 0, [0, 30000]])

    def test_when_all_are_told(self):
        for now in (0, 5, TIME_END - 1):
            self.assertEqual(said(begin(now), DUE), [0, [0, now + 30000]])
        start = UP + [tick(1000)]
        self.assertEqual(said_after(start, DUE, tick(30999), DUE, tick(31000), DUE)[::2],
                         [[0, 31000], [0, 31000], [0, 61000]])
        self.assertEqual(said_after(UP, tick(77777), DUE)[1], [0, 107777])

    def test_changed_at_once(self):
        self.assertEqual(said_after(UP, DUE), [[0, 1000]])
        self.assertEqual(said(begin(), link(0, OUR, 24), DUE), [0, 0, [0, 0]])

    def test_changed_within_the_1000(self):
        start = UP + [tick(1000), told(3)]
        self.assertEqual(said_after(start, DUE, tick(1001), DUE, tick(1999), DUE, tick(2000), DUE)[::2],
                         [[0, 2000], [0, 2000], [0, 2000], [0, 31000]])

    def test_changed_later_than_that(self):
        start = UP + [tick(1000), tick(5000)]
        self.assertEqual(said_after(start, DUE, told(3), DUE), [[0, 31000], 1, [0, 5000]])

    def test_changed_right_before_all_are_told(self):
        start = UP + [tick(30500), told(3)]
        self.assertEqual(said_after(start, DUE), [[0, 31000]])

    def test_till_when_a_neighbours_is_good(self):
        start = UP + [told(3), tick(160000)]
        self.assertEqual(said_after(start, DUE, told(3), DUE, tick(330000), DUE)[::2],
                         [[0, 181000], [0, 190000], [0, 340000]])

    def test_the_least_of_several(self):
        start = UP + [told(3), tick(1500), told(3, network=(ip(11), 8)), tick(175000)]
        self.assertEqual(said_after(start, DUE, told(3), DUE), [[0, 181000], 0, [0, 181500]])

    def test_a_links_own_is_always_good(self):
        start = UP + [tick(165000)]
        self.assertEqual(said_after(start, DUE), [[0, 195000]])

    def test_when_a_lost_one_is_forgotten(self):
        start = UP + [told(3), told(16), tick(110000)]
        self.assertEqual(said_after(start, DUE, told(16), DUE, tick(121000), DUE),
                         [[0, 121000], 0, [0, 121000], 0, [0, 140000]])

    def test_when_a_lost_own_one_is_forgotten(self):
        start = UP + [down(0), tick(110000)]
        self.assertEqual(said_after(start, DUE, tick(121000), DUE), [[0, 121000], 0, [0, 140000]])

    def test_found_again_it_is_not_forgotten(self):
        start = UP + [told(3), told(16), tick(110000), told(3), tick(111000)]
        self.assertEqual(said_after(start, DUE), [[0, 140000]])

    def test_lost_it_is_not_good(self):
        start = UP + [told(3), tick(100000), told(16), tick(170000)]
        self.assertEqual(said_after(start, DUE), [[0, 200000]])

    def test_each_tick_that_is_due_moves_it(self):
        calls = UP_TWO + [told(3), told(4, ACROSS, 1, (ip(11), 8)), hear(0, OTHER, message((ip(12), 8, 2), (0, 0, 15)))]
        before = -1
        for step in range(30):
            due = said(*calls, DUE)[-1][1]
            self.assertGreater(due, before)
            if due > 1000:
                self.assertEqual(said(*calls, tick(due - 1), DUE)[-2:], [0, [0, due]])
            calls = calls + [tick(due)]
            before = due

    def test_nothing_is_changed(self):
        start = UP + [told(3)]
        self.assertEqual(said_after(start, DUE, DUE, ROUTES, tick(1000))[1:],
                         said_after(start, DUE, ROUTES, tick(1000)))


if __name__ == "__main__":
    unittest.main()
