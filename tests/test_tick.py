"""Promise 5: when a tick is refused, when it tells what, and what time does to the routes."""

import unittest

from tests.helper import (ACROSS, DUE, FAR_NET, NEAR, NET_0, NET_1, OTHER, OUR, ROUTES, TIME_END, TOP, UP, UP_TWO,
                          begin, down, ip, link, listed, said, said_after, sent, tick, told, way)

OWN_0 = (NET_0[0], NET_0[1], 0, 0, 0)
OWN_1 = (NET_1[0], NET_1[1], 0, 1, 0)


def saying(network, far):
    return (network[0], network[1], far)


def by_near(far):
    return (FAR_NET[0], FAR_NET[1], far, 0, NEAR)


# What is told of link 0's own network on link 0, where nothing else is told.
OWN_TOLD = sent((0, saying(NET_0, 16)))
BOTH_TOLD = sent((0, saying(NET_0, 16), saying(FAR_NET, 16)))


class Refusals(unittest.TestCase):
    def test_before_the_time(self):
        self.assertEqual(said(begin(500), tick(499), tick(0), tick(500), tick(501), tick(500)), [0, -1, -1, 0, 0, -1])

    def test_at_the_end_of_time(self):
        self.assertEqual(said(begin(), tick(TIME_END), tick(TIME_END + 1), tick(2 ** 63), tick(TOP)),
                         [0, -1, -1, -1, -1])
        self.assertEqual(said(begin(), tick(TIME_END - 1), tick(TIME_END - 1), tick(TIME_END), tick(TIME_END - 2)),
                         [0, 0, 0, -1, -1])

    def test_no_begin_comes_first(self):
        self.assertEqual(said(begin(TIME_END), tick(0), tick(TIME_END), begin(9), tick(8)), [-1, -6, -6, 0, -1])

    def test_it_changes_nothing(self):
        start = UP + [told(3)]
        before = said_after(start, ROUTES, DUE)
        for now in (999, TIME_END, TOP):
            self.assertEqual(said_after(start, tick(now), ROUTES, DUE), [-1] + before)
            self.assertEqual(said_after(start, tick(now), tick(1000), tick(181000), ROUTES),
                             [-1, BOTH_TOLD, BOTH_TOLD, listed(OWN_0, by_near(16))])

    def test_a_begin_moves_the_time_back(self):
        self.assertEqual(said(begin(5), tick(100), tick(99), begin(7), tick(6), tick(7)), [0, 0, -1, 0, -1, 0])


class ChangesTold(unittest.TestCase):
    def test_at_once_behind_a_begin(self):
        self.assertEqual(said_after(UP, tick(1000), tick(1000)), [OWN_TOLD, 0])

    def test_not_before_1000_behind_the_last_ones(self):
        start = UP + [tick(1000), told(3)]
        self.assertEqual(said_after(start, tick(1999), tick(2000), tick(3000)),
                         [0, sent((0, saying(FAR_NET, 16))), 0])

    def test_the_1000_count_from_the_tick_that_told(self):
        start = UP + [tick(1700), told(3)]
        self.assertEqual(said_after(start, tick(2699), tick(2700)), [0, sent((0, saying(FAR_NET, 16)))])

    def test_no_time_counts_where_nothing_has_changed(self):
        self.assertEqual(said_after(UP, tick(1000), tick(5000), told(3), tick(5000)),
                         [OWN_TOLD, 0, 1, sent((0, saying(FAR_NET, 16)))])

    def test_only_those_that_have_changed_in_order(self):
        start = UP + [told(3), tick(1000), told(4), told(2, network=(ip(9), 8)), told(2, network=(ip(9), 9))]
        self.assertEqual(said_after(start, tick(2000)),
                         [sent((0, (ip(9), 8, 16), (ip(9), 9, 16), saying(FAR_NET, 16)))])

    def test_what_stays_has_not_changed(self):
        start = UP_TWO + [told(3), tick(1000)]
        self.assertEqual(said_after(start, told(3), told(3, ACROSS, 1), told(16, OTHER), told(1, network=NET_0),
                                    tick(5000)), [0, 0, 0, 0, 0])

    def test_each_kind_of_change(self):
        start = UP_TWO + [told(3), tick(1000)]
        for call, answer, messages in (
                (told(4), 1, [(0, saying(FAR_NET, 16)), (1, saying(FAR_NET, 5))]),
                (told(16), 1, [(0, saying(FAR_NET, 16)), (1, saying(FAR_NET, 16))]),
                (told(2, OTHER), 1, [(0, saying(FAR_NET, 16)), (1, saying(FAR_NET, 3))]),
                (told(2, ACROSS, 1), 1, [(0, saying(FAR_NET, 3)), (1, saying(FAR_NET, 16))]),
                (down(1), 0, [(0, saying(NET_1, 16))]),
                (down(0), 0, [(1, saying(NET_0, 16), saying(FAR_NET, 16))]),
                (link(2, ip(172, 16, 0, 1), 12), 0,
                 [(0, saying(FAR_NET, 1)), (1, saying(FAR_NET, 1)), (2, saying(FAR_NET, 16))])):
            self.assertEqual(said_after(start, call, tick(2000), tick(3000)), [answer, sent(*messages), 0])

    def test_changed_and_back_is_told(self):
        start = UP + [told(3), tick(1000), told(4), told(3)]
        self.assertEqual(said_after(start, tick(2000)), [sent((0, saying(FAR_NET, 16)))])


class AllTold(unittest.TestCase):
    def test_30000_behind_a_begin(self):
        start = UP + [told(3), tick(1000)]
        self.assertEqual(said_after(start, tick(30999), tick(31000)), [0, BOTH_TOLD])

    def test_each_30000(self):
        self.assertEqual(said_after(UP, tick(31000), tick(60999), tick(61000), tick(90999), tick(91000)),
                         [OWN_TOLD, 0, OWN_TOLD, 0, OWN_TOLD])

    def test_the_30000_count_from_the_tick_that_told(self):
        self.assertEqual(said_after(UP, tick(45000), tick(61000), tick(74999), tick(75000)),
                         [OWN_TOLD, 0, 0, OWN_TOLD])

    def test_changes_told_do_not_move_it(self):
        self.assertEqual(said_after(UP, tick(30999), tick(31000)), [OWN_TOLD, OWN_TOLD])

    def test_all_do_not_wait_for_the_1000(self):
        start = UP + [tick(30500), told(3)]
        self.assertEqual(said_after(start, tick(30999), tick(31000)), [0, BOTH_TOLD])

    def test_changes_are_told_with_it(self):
        start = UP + [told(3)]
        self.assertEqual(said_after(start, tick(31000), tick(32000), tick(60999)), [BOTH_TOLD, 0, 0])

    def test_changes_wait_for_1000_behind_it(self):
        start = UP + [tick(31000), told(3)]
        self.assertEqual(said_after(start, tick(31000), tick(31999), tick(32000)),
                         [0, 0, sent((0, saying(FAR_NET, 16)))])

    def test_a_second_begin_counts_anew(self):
        start = UP + [tick(30000), begin(20000), link(0, OUR, 24)]
        self.assertEqual(said_after(start, tick(20000), tick(49999), tick(50000)), [OWN_TOLD, 0, OWN_TOLD])


class NobodyToTell(unittest.TestCase):
    def test_changes(self):
        start = UP + [down(0)]
        self.assertEqual(said_after(start, tick(1500), DUE, link(0, OUR, 24), tick(2499), tick(2500)),
                         [0, [0, 31000], 0, 0, OWN_TOLD])

    def test_all(self):
        start = UP + [down(0)]
        self.assertEqual(said_after(start, tick(31000), DUE, link(0, OUR, 24), tick(31999), tick(32000)),
                         [0, [0, 61000], 0, 0, OWN_TOLD])

    def test_all_where_there_is_no_route(self):
        self.assertEqual(said(begin(), tick(29999), DUE, tick(30000), DUE, link(0, OUR, 24), tick(30999), tick(31000)),
                         [0, 0, [0, 30000], 0, [0, 60000], 0, 0, OWN_TOLD])


class Lost(unittest.TestCase):
    def test_good_for_180000(self):
        start = UP + [told(3)]
        self.assertEqual(said_after(start, tick(180999), ROUTES, tick(181000), ROUTES),
                         [BOTH_TOLD, listed(OWN_0, by_near(3)), 0, listed(OWN_0, by_near(16))])

    def test_it_is_told_in_the_tick_that_loses_it(self):
        start = UP + [told(3), tick(30000)]
        self.assertEqual(said_after(start, tick(170000), tick(180999), tick(181000), tick(182000)),
                         [BOTH_TOLD, 0, sent((0, saying(FAR_NET, 16))), 0])

    def test_the_same_distance_again_counts_anew(self):
        start = UP + [told(3), tick(150000), told(3), tick(182000)]
        self.assertEqual(said_after(start, tick(329999), ROUTES, tick(330000), ROUTES)[1::2],
                         [listed(OWN_0, by_near(3)), listed(OWN_0, by_near(16))])

    def test_another_distance_counts_anew(self):
        start = UP + [told(3), tick(150000), told(15), tick(182000)]
        self.assertEqual(said_after(start, tick(329999), ROUTES, tick(330000), ROUTES)[1::2],
                         [listed(OWN_0, by_near(15)), listed(OWN_0, by_near(16))])

    def test_another_neighbours_word_does_not(self):
        start = UP_TWO + [told(3), tick(150000), told(3, OTHER), told(3, ACROSS, 1), tick(181000)]
        self.assertEqual(said_after(start, ROUTES), [listed(OWN_0, OWN_1, by_near(16))])

    def test_a_links_own_is_always_good(self):
        start = UP + [tick(180999), tick(181000), tick(500000), tick(TIME_END - 1)]
        self.assertEqual(said_after(start, ROUTES, tick(TIME_END - 1)), [listed(OWN_0), 0])

    def test_a_route_from_the_end_of_time_is_good(self):
        start = [begin(TIME_END - 1), link(0, OUR, 24), told(3)]
        self.assertEqual(said_after(start, tick(TIME_END - 1), ROUTES, DUE),
                         [BOTH_TOLD, listed(OWN_0, by_near(3)), [0, TIME_END - 1 + 30000]])


class Forgotten(unittest.TestCase):
    def test_120000_after_a_neighbours_16(self):
        start = UP + [told(3), told(16)]
        self.assertEqual(said_after(start, tick(120999), ROUTES, tick(121000), ROUTES),
                         [BOTH_TOLD, listed(OWN_0, by_near(16)), 0, listed(OWN_0)])

    def test_120000_after_its_link_went_down(self):
        start = UP + [told(3), tick(1500), down(0)]
        gone = (NET_0[0], NET_0[1], 16, 0, 0)
        self.assertEqual(said_after(start, tick(121499), ROUTES, tick(121500), ROUTES),
                         [0, listed(gone, by_near(16)), 0, 0])

    def test_120000_after_the_tick_that_lost_it(self):
        start = UP + [told(3), tick(400000)]
        self.assertEqual(said_after(start, ROUTES, tick(519999), ROUTES, tick(520000), ROUTES),
                         [listed(OWN_0, by_near(16)), BOTH_TOLD, listed(OWN_0, by_near(16)), 0, listed(OWN_0)])

    def test_a_second_16_does_not_count_anew(self):
        start = UP + [told(3), told(16), tick(60000), told(16), tick(120999), told(16)]
        self.assertEqual(said_after(start, ROUTES, tick(121000), ROUTES),
                         [listed(OWN_0, by_near(16)), 0, listed(OWN_0)])

    def test_it_is_not_told_any_more(self):
        start = UP + [told(3), told(16)]
        self.assertEqual(said_after(start, tick(121000)), [OWN_TOLD])

    def test_one_that_was_found_again_stays(self):
        start = UP + [told(3), told(16), tick(60000), told(3), tick(121000)]
        self.assertEqual(said_after(start, ROUTES), [listed(OWN_0, by_near(3))])

    def test_a_links_own_that_is_up_again_stays(self):
        start = UP + [down(0), tick(60000), link(0, OUR, 24), tick(121000), tick(181000), tick(400000)]
        self.assertEqual(said_after(start, ROUTES), [listed(OWN_0)])

    def test_one_that_is_lost_at_once_where_another_is_forgotten(self):
        another = (ip(172, 32), 12)
        start = UP + [told(3), told(3, network=another), told(16), tick(1000000)]
        self.assertEqual(said_after(start, ROUTES), [listed(OWN_0, (another[0], another[1], 16, 0, NEAR))])

    def test_no_way_leads_by_one_that_is_lost(self):
        start = UP + [told(3)]
        self.assertEqual(said_after(start, tick(180999), way(FAR_NET[0]), tick(181000), way(FAR_NET[0]))[1::2],
                         [[3, 0, NEAR], -2])


class OrderOfWork(unittest.TestCase):
    def test_forgotten_before_told(self):
        start = UP + [told(3), told(16), tick(91000)]
        self.assertEqual(said_after(start, tick(121000)), [OWN_TOLD])

    def test_lost_before_told(self):
        start = UP_TWO + [told(3), tick(151000)]
        lost = [(0, saying(NET_0, 16), saying(NET_1, 1), saying(FAR_NET, 16)),
                (1, saying(NET_0, 1), saying(NET_1, 16), saying(FAR_NET, 16))]
        self.assertEqual(said_after(start, tick(181000)), [sent(*lost)])


if __name__ == "__main__":
    unittest.main()
