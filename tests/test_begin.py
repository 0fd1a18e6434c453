"""Promise 1, and what is answered before a begin has answered 0."""

import unittest

from nearroutes.session import Session
from tests.helper import (DUE, FAR_NET, NEAR, OUR, ROUTES, TIME_END, TOP, UP, begin, down, hear, link, message,
                          said, said_after, tick, told, way)


class Begin(unittest.TestCase):
    def test_now_is_taken_below_its_bound(self):
        for now in (0, 1, 1000, TIME_END - 1):
            self.assertEqual(said(begin(now)), [0])

    def test_now_is_refused_from_its_bound_on(self):
        for now in (TIME_END, TIME_END + 1, 2 ** 63, TOP):
            self.assertEqual(said(begin(now)), [-1])

    def test_no_link_is_up_at_first(self):
        self.assertEqual(said(begin(), down(0), down(1), down(2), down(3)), [0, -4, -4, -4, -4])

    def test_there_is_no_route_at_first(self):
        session = Session()
        session.begin(7)
        self.assertEqual(session.table.by_network, {})

    def test_when_all_and_changes_are_told(self):
        for now in (0, 5, TIME_END - 1):
            session = Session()
            session.begin(now)
            self.assertEqual((session.now, session.all_told_at, session.changes_told_from),
                             (now, now + 30000, now))


class BeforeBegin(unittest.TestCase):
    def test_all_others_are_refused_till_a_begin_answers_0(self):
        refused = [link(0, OUR, 24), down(0), told(1), tick(0), way(NEAR), ROUTES, DUE]
        self.assertEqual(said(begin(TIME_END), *refused), [-1] + [-6] * 7)
        self.assertEqual(said(begin(TOP), begin(TIME_END), *refused), [-1, -1] + [-6] * 7)
        self.assertEqual(said(begin(TIME_END), *refused, begin(TIME_END - 1), *refused[4:]),
                         [-1] + [-6] * 7 + [0, -2, 0, [0, TIME_END - 1 + 30000]])

    def test_that_refusal_comes_before_all_others(self):
        wrong = [link(4, 0, 0), down(4), hear(4, 0, []), hear(0, NEAR, [1, 2, 3]), tick(TIME_END), way(2 ** 32)]
        self.assertEqual(said(begin(TIME_END), *wrong), [-1] + [-6] * 6)

    def test_that_refusal_changes_nothing(self):
        self.assertEqual(said(begin(TIME_END), link(0, OUR, 24), begin(0), down(0), link(0, OUR, 24), told(3)),
                         [-1, -6, 0, -4, 0, 1])


class BeginAgain(unittest.TestCase):
    def test_links_are_down_again(self):
        self.assertEqual(said_after(UP, begin(5), down(0), told(3), link(0, OUR, 24)), [0, -4, -4, 0])

    def test_a_network_of_before_is_free_for_another_link(self):
        self.assertEqual(said_after(UP, begin(5), link(1, OUR, 24)), [0, 0])

    def test_routes_are_gone(self):
        self.assertEqual(said_after(UP, told(3), told(3), begin(5), link(0, OUR, 24), told(3)), [1, 0, 0, 0, 1])

    def test_lost_routes_are_gone_too(self):
        other = NEAR + 1
        self.assertEqual(said_after(UP, told(3), told(16), told(3, other), begin(5), link(0, OUR, 24),
                                    told(3, other)), [1, 1, 0, 0, 0, 1])

    def test_an_earlier_time_will_do(self):
        self.assertEqual(said(begin(TIME_END - 1), begin(0)), [0, 0])

    def test_times_are_told_anew(self):
        session = Session()
        session.begin(70000)
        session.begin(20)
        self.assertEqual((session.now, session.all_told_at, session.changes_told_from), (20, 30020, 20))

    def test_a_refused_one_changes_nothing(self):
        self.assertEqual(said_after(UP, told(3), begin(TIME_END), told(3), link(0, OUR, 24), down(0)),
                         [1, -1, 0, -4, 0])
        session = Session()
        session.begin(20)
        session.begin(TIME_END)
        self.assertEqual((session.now, session.all_told_at, session.changes_told_from), (20, 30020, 20))

    def test_message_to_a_network_of_before(self):
        network = message((FAR_NET[0], FAR_NET[1], 2))
        self.assertEqual(said_after(UP, begin(0), link(2, NEAR, 24), hear(2, OUR, network)), [0, 0, 1])


if __name__ == "__main__":
    unittest.main()
