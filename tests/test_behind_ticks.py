"""Promises 1 to 4 once time has moved."""

import unittest

from tests.helper import (ACROSS, DUE, FAR_NET, NEAR, NET_0, NET_1, OTHER, OUR, ROUTES, TIME_END, UP, UP_TWO, begin,
                          down, filling, hear, ip, link, listed, message, nets, said_after, sent, tick, told, way)

OWN_0 = (NET_0[0], NET_0[1], 0, 0, 0)
OWN_1 = (NET_1[0], NET_1[1], 0, 1, 0)


def course(far, link_of=0, neighbour=NEAR):
    return (FAR_NET[0], FAR_NET[1], far, link_of, neighbour)


class Begin(unittest.TestCase):
    def test_all_is_new_at_an_earlier_time(self):
        start = UP + [told(3), tick(100000), begin(50)]
        self.assertEqual(said_after(start, ROUTES, DUE, way(NEAR), tick(49), tick(50), down(0)),
                         [0, [0, 30050], -2, -1, 0, -4])

    def test_changes_may_be_told_from_now_on(self):
        start = UP + [tick(100000), begin(100001), link(0, OUR, 24)]
        self.assertEqual(said_after(start, DUE, tick(100001), DUE),
                         [[0, 100001], sent((0, (NET_0[0], NET_0[1], 16))), [0, 130001]])

    def test_what_was_lost_is_not_mistrusted_any_more(self):
        start = UP + [told(3), told(16), tick(2000), begin(2000), link(0, OUR, 24)]
        self.assertEqual(said_after(start, told(3, OTHER), ROUTES), [1, listed(OWN_0, course(3, 0, OTHER))])

    def test_a_refused_one_leaves_the_time(self):
        start = UP + [told(3), tick(2000), begin(TIME_END)]
        self.assertEqual(said_after(start, tick(1999), ROUTES, DUE), [-1, listed(OWN_0, course(3)), [0, 31000]])


class Link(unittest.TestCase):
    def test_its_own_takes_the_place_of_a_learned_one_for_good(self):
        start = UP + [told(3), tick(2000), link(1, ip(172, 16, 0, 1), 12), tick(181000), tick(400000)]
        self.assertEqual(said_after(start, ROUTES), [listed(OWN_0, course(0, 1, 0))])

    def test_its_own_takes_the_place_of_a_lost_one_at_once(self):
        start = UP + [tick(2000), down(0), tick(2001), link(1, NEAR, 24), tick(122000)]
        self.assertEqual(said_after(start, ROUTES), [listed((NET_0[0], NET_0[1], 0, 1, 0))])

    def test_what_is_forgotten_makes_room(self):
        start = UP + filling(254) + [told(3), told(16)]
        more = link(1, ip(11, 0, 0, 1), 8)
        self.assertEqual(said_after(start + [tick(120999)], more, tick(121000), more)[::2], [-5, 0])

    def test_its_network_is_out_of_reach_till_it_is_up_again(self):
        start = UP_TWO + [tick(1000), down(0), tick(2000), link(0, OUR, 24)]
        self.assertEqual(said_after(start, tick(3000)),
                         [sent((0, (NET_0[0], NET_0[1], 16)), (1, (NET_0[0], NET_0[1], 1)))])


class Down(unittest.TestCase):
    def test_times_count_from_when_it_went_down(self):
        start = UP_TWO + [told(3), tick(50000), down(0)]
        lost = listed((NET_0[0], NET_0[1], 16, 0, 0), OWN_1, course(16))
        self.assertEqual(said_after(start, ROUTES, tick(169999), ROUTES, tick(170000), ROUTES)[::2],
                         [lost, lost, listed(OWN_1)])

    def test_what_was_lost_before_keeps_its_times(self):
        start = UP_TWO + [told(3), told(16), tick(50000), down(0)]
        self.assertEqual(said_after(start, tick(121000), ROUTES)[1], listed((NET_0[0], NET_0[1], 16, 0, 0), OWN_1))

    def test_what_was_lost_before_has_not_changed(self):
        start = UP_TWO + [told(3), told(16), tick(1000), down(0)]
        self.assertEqual(said_after(start, tick(2000)), [sent((1, (NET_0[0], NET_0[1], 16)))])

    def test_others_wait_for_60000(self):
        start = UP_TWO + [told(3), tick(2000), down(0), tick(61999)]
        self.assertEqual(said_after(start, told(1, ACROSS, 1)), [0])
        self.assertEqual(said_after(start, tick(62000), told(1, ACROSS, 1), ROUTES)[1:],
                         [1, listed((NET_0[0], NET_0[1], 16, 0, 0), OWN_1, course(1, 1, ACROSS))])

    def test_its_own_network_may_be_learned_60000_later(self):
        start = UP_TWO + [tick(2000), down(0)]
        there = told(5, ACROSS, 1, NET_0)
        self.assertEqual(said_after(start + [tick(61999)], there, way(NEAR)), [0, -2])
        self.assertEqual(said_after(start + [tick(62000)], there, way(NEAR)), [1, [5, 1, ACROSS]])


class Hear(unittest.TestCase):
    def test_a_lost_one_is_taken_by_others_60000_later(self):
        for neighbour, i in ((OTHER, 0), (ACROSS, 1)):
            start = UP_TWO + [told(3), tick(5000), told(16), tick(64999)]
            self.assertEqual(said_after(start, told(1, neighbour, i), ROUTES), [0, listed(OWN_0, OWN_1, course(16))])
            start = start + [tick(65000)]
            self.assertEqual(said_after(start, told(16, neighbour, i), told(15, neighbour, i), ROUTES),
                             [0, 1, listed(OWN_0, OWN_1, course(15, i, neighbour))])

    def test_one_that_was_lost_by_time_is_taken_60000_later(self):
        start = UP_TWO + [told(3), tick(181000), tick(240999)]
        self.assertEqual(said_after(start, told(1, OTHER)), [0])
        self.assertEqual(said_after(start, tick(241000), told(1, OTHER))[1], 1)

    def test_its_own_neighbour_takes_it_at_once(self):
        start = UP + [told(3), tick(181000)]
        self.assertEqual(said_after(start, told(15), ROUTES), [1, listed(OWN_0, course(15))])

    def test_one_that_was_taken_is_lost_anew(self):
        start = UP + [told(3), told(16), tick(61000), told(3, OTHER), told(16, OTHER), tick(120999)]
        self.assertEqual(said_after(start, told(1), tick(121000), told(1), ROUTES)[::2], [0, 1])
        self.assertEqual(said_after(start, tick(121000), ROUTES)[1], listed(OWN_0, course(16, 0, OTHER)))
        self.assertEqual(said_after(start, tick(180999), ROUTES, tick(181000), ROUTES)[1::2],
                         [listed(OWN_0, course(16, 0, OTHER)), listed(OWN_0)])

    def test_one_that_was_taken_is_good_for_180000(self):
        start = UP + [told(3), told(16), tick(61000), told(3, OTHER)]
        self.assertEqual(said_after(start, tick(240999), ROUTES, tick(241000), ROUTES)[1::2],
                         [listed(OWN_0, course(3, 0, OTHER)), listed(OWN_0, course(16, 0, OTHER))])

    def test_a_nearer_one_is_good_for_180000(self):
        start = UP + [told(3), tick(100000), told(2, OTHER)]
        self.assertEqual(said_after(start, tick(279999), ROUTES, tick(280000), ROUTES)[1::2],
                         [listed(OWN_0, course(2, 0, OTHER)), listed(OWN_0, course(16, 0, OTHER))])

    def test_what_is_forgotten_is_new_again(self):
        start = UP + [told(3), told(16), tick(121000)]
        self.assertEqual(said_after(start, told(16), told(9, OTHER), ROUTES),
                         [0, 1, listed(OWN_0, course(9, 0, OTHER))])

    def test_what_is_forgotten_makes_room(self):
        start = UP + filling(255) + [hear(0, NEAR, message(*nets(3, 2, 16))), tick(120999)]
        for many in (1, 2, 3):
            heard = hear(0, NEAR, message(*nets(1000, many)))
            self.assertEqual(said_after(start, heard, tick(121000), heard)[::2], [0, min(many, 2)])


if __name__ == "__main__":
    unittest.main()
