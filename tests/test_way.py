"""Promise 6."""

import unittest

from tests.helper import (ACROSS, DUE, FAR_NET, NEAR, OTHER, OUR, ROUTES, TIME_END, TOP, UP, UP_TWO, begin, down,
                          hear, ip, link, message, said, said_after, tick, told, way)

LAST = 2 ** 32 - 1


class Refusals(unittest.TestCase):
    def test_above_the_last_address(self):
        start = UP + [told(3, network=(0, 0))]
        self.assertEqual(said_after(start, way(LAST), way(LAST + 1), way(LAST + 2), way(2 ** 33), way(TOP)),
                         [[3, 0, NEAR], -1, -1, -1, -1])

    def test_none(self):
        self.assertEqual(said(begin(), way(0), way(NEAR), way(LAST)), [0, -2, -2, -2])
        self.assertEqual(said_after(UP, way(ip(9, 255, 255, 255)), way(ip(10, 0, 1)), way(0), way(LAST)),
                         [-2, -2, -2, -2])

    def test_no_begin_comes_first(self):
        self.assertEqual(said(begin(TIME_END), way(NEAR), way(LAST + 1)), [-1, -6, -6])

    def test_the_address_comes_before_there_being_none(self):
        self.assertEqual(said(begin(), way(LAST + 1), way(TOP)), [0, -1, -1])

    def test_nothing_is_changed(self):
        start = UP + [told(3)]
        before = said_after(start, ROUTES, DUE, tick(1000))
        for address in (NEAR, FAR_NET[0], 0, LAST, LAST + 1, TOP):
            self.assertEqual(said_after(start, way(address), ROUTES, DUE, tick(1000))[1:], before)


class Own(unittest.TestCase):
    def test_the_address_itself_is_the_neighbour(self):
        for address in (ip(10), OUR, NEAR, ip(10, 0, 0, 255)):
            self.assertEqual(said_after(UP, way(address)), [[0, 0, address]])
        self.assertEqual(said_after(UP_TWO, way(ACROSS)), [[0, 1, ACROSS]])

    def test_address_0(self):
        self.assertEqual(said(begin(), link(3, 1, 1), way(0), way(2 ** 31 - 1), way(2 ** 31)),
                         [0, 0, [0, 3, 0], [0, 3, 2 ** 31 - 1], -2])

    def test_of_a_link_that_is_down(self):
        self.assertEqual(said_after(UP, down(0), way(NEAR), link(0, OUR, 24), way(NEAR)), [0, -2, 0, [0, 0, NEAR]])


class Learned(unittest.TestCase):
    def test_each_end_of_a_network(self):
        start = UP + [told(3)]
        self.assertEqual(said_after(start, way(ip(172, 15, 255, 255)), way(ip(172, 16)), way(ip(172, 31, 255, 255)),
                                    way(ip(172, 32))), [-2, [3, 0, NEAR], [3, 0, NEAR], -2])

    def test_distances(self):
        for far in (1, 2, 14, 15):
            self.assertEqual(said_after(UP, told(far), way(FAR_NET[0])), [1, [far, 0, NEAR]])

    def test_of_0_bits(self):
        start = UP + [told(7, network=(0, 0))]
        self.assertEqual(said_after(start, way(0), way(LAST), way(ip(99)), way(OTHER)),
                         [[7, 0, NEAR], [7, 0, NEAR], [7, 0, NEAR], [0, 0, OTHER]])

    def test_of_32_bits(self):
        for address in (0, ip(99), LAST):
            start = UP + [told(7, network=(address, 32))]
            self.assertEqual(said_after(start, way(address)), [[7, 0, NEAR]])
            self.assertEqual(said_after(start, way(address ^ 1)), [-2])

    def test_the_most_bits_whatever_came_first(self):
        offers = [(0, 0, 1), (ip(10), 8, 2), (ip(10), 16, 3), (ip(10, 0, 0, 128), 25, 14), (ip(10, 0, 0, 200), 32, 15)]
        ways = [(ip(10, 0, 0, 200), [15, 0, NEAR]), (ip(10, 0, 0, 201), [14, 0, NEAR]),
                (ip(10, 0, 0, 127), [0, 0, ip(10, 0, 0, 127)]), (ip(10, 0, 9, 9), [3, 0, NEAR]),
                (ip(10, 9, 9, 9), [2, 0, NEAR]), (ip(11), [1, 0, NEAR])]
        for order in (offers, offers[::-1]):
            start = UP + [hear(0, NEAR, message(*order))]
            for address, answer in ways:
                self.assertEqual(said_after(start, way(address)), [answer])

    def test_more_bits_come_before_a_shorter_way(self):
        start = UP_TWO + [told(1, network=(ip(10), 8)), told(15, ACROSS, 1, (ip(10, 9), 16))]
        self.assertEqual(said_after(start, way(ip(10, 9)), way(ip(10, 8))), [[15, 1, ACROSS], [1, 0, NEAR]])

    def test_the_link_and_neighbour_of_now(self):
        start = UP_TWO + [told(9)]
        self.assertEqual(said_after(start, way(FAR_NET[0]), told(8, OTHER), way(FAR_NET[0]), told(7, ACROSS, 1),
                                    way(FAR_NET[0])), [[9, 0, NEAR], 1, [8, 0, OTHER], 1, [7, 1, ACROSS]])


class OutOfReach(unittest.TestCase):
    def test_it_is_passed_over(self):
        start = UP + [told(3), told(16)]
        self.assertEqual(said_after(start, way(FAR_NET[0])), [-2])

    def test_one_of_fewer_bits_serves(self):
        start = UP + [told(3), told(5, OTHER, network=(ip(172), 8))]
        self.assertEqual(said_after(start, way(FAR_NET[0]), told(16), way(FAR_NET[0]), told(3), way(FAR_NET[0])),
                         [[3, 0, NEAR], 1, [5, 0, OTHER], 1, [3, 0, NEAR]])

    def test_an_own_one_that_is_lost(self):
        start = UP_TWO + [told(4, ACROSS, 1, (ip(10), 8)), down(0)]
        self.assertEqual(said_after(start, way(NEAR), way(ACROSS)), [[4, 1, ACROSS], [0, 1, ACROSS]])


if __name__ == "__main__":
    unittest.main()
