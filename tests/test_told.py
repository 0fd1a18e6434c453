"""Promise 5: how far a route is told on each link, and in what messages."""

import unittest

from tests.helper import (ACROSS, FAR_NET, NEAR, NET_0, NET_1, OUR, UP, UP_TWO, begin, down, filling, hear, ip, link,
                          message, nets, said_after, sent, tick, told)

OWN_16 = (NET_0[0], NET_0[1], 16)
FOUR_UP = [begin()] + [link(i, ip(10, 0, i, 1), 24) for i in range(4)]


class Distances(unittest.TestCase):
    def on_both(self, *offers):
        """What is told on links 0 and 1 of networks that were learned on link 0."""
        start = UP_TWO + [tick(1000), hear(0, NEAR, message(*offers))]
        return said_after(start, tick(2000))

    def test_one_more_on_another_link_and_16_on_its_own(self):
        for far, other in ((1, 2), (2, 3), (13, 14), (14, 15), (15, 16)):
            self.assertEqual(self.on_both((ip(11), 8, far)), [sent((0, (ip(11), 8, 16)), (1, (ip(11), 8, other)))])

    def test_lost_ones_are_16_on_all(self):
        start = UP_TWO + [told(14), tick(1000), told(16)]
        far = (FAR_NET[0], FAR_NET[1], 16)
        self.assertEqual(said_after(start, tick(2000)), [sent((0, far), (1, far))])

    def test_a_links_own(self):
        self.assertEqual(said_after(UP_TWO, tick(1000)),
                         [sent((0, OWN_16, (NET_1[0], NET_1[1], 1)),
                               (1, (NET_0[0], NET_0[1], 1), (NET_1[0], NET_1[1], 16)))])

    def test_the_link_it_is_by_now_counts(self):
        start = UP_TWO + [told(9), tick(1000), told(4, ACROSS, 1)]
        self.assertEqual(said_after(start, tick(2000)),
                         [sent((0, (FAR_NET[0], FAR_NET[1], 5)), (1, (FAR_NET[0], FAR_NET[1], 16)))])

    def test_all_of_one_message(self):
        self.assertEqual(self.on_both((0, 0, 14), (2 ** 31, 1, 15), (2 ** 32 - 1, 32, 1)),
                         [sent((0, (0, 0, 16), (2 ** 31, 1, 16), (2 ** 32 - 1, 32, 16)),
                               (1, (0, 0, 15), (2 ** 31, 1, 16), (2 ** 32 - 1, 32, 2)))])


class Bytes(unittest.TestCase):
    def test_one_message_byte_by_byte(self):
        self.assertEqual(said_after(UP, tick(1000)), [[1, 0, 10, 0, 1, 10, 0, 0, 0, 24, 16, 0, 0]])

    def test_an_address_of_four_bytes(self):
        heard = message((ip(1, 2, 3, 252), 30, 4), (ip(255, 254, 253, 252), 32, 5))
        start = UP_TWO + [tick(1000), hear(0, NEAR, heard)]
        self.assertEqual(said_after(start, tick(2000)),
                         [[2,
                           0, 18, 0, 2, 1, 2, 3, 252, 30, 16, 0, 0, 255, 254, 253, 252, 32, 16, 0, 0,
                           1, 18, 0, 2, 1, 2, 3, 252, 30, 5, 0, 0, 255, 254, 253, 252, 32, 6, 0, 0]])

    def test_a_neighbour_hears_what_is_sent(self):
        answer = said_after(UP_TWO + filling(3), tick(1000))[0]
        octets = answer[answer[2] + 5:]
        self.assertEqual(answer[answer[2] + 3:answer[2] + 5], [1, len(octets)])
        self.assertEqual(said_after([begin(), link(2, ip(10, 0, 1, 9), 24)], hear(2, ip(10, 0, 1, 1), octets)), [4])


class HowMany(unittest.TestCase):
    def told_on_one(self, many):
        """What is told of so many routes, all by link 0, as offers; the first is the link's own."""
        return [OWN_16] + [(address, bits, 16) for address, bits, far in nets(0, many - 1)]

    def test_messages_of_64(self):
        for many in (1, 2, 63, 64, 65, 127, 128, 129, 192, 193, 255, 256):
            offers = self.told_on_one(many)
            messages = [(0, *offers[at:at + 64]) for at in range(0, many, 64)]
            self.assertEqual(said_after(UP + filling(many - 1), tick(1000)), [sent(*messages)])
            self.assertEqual(said_after(UP + filling(many - 1), tick(31000)), [sent(*messages)])

    def test_how_many_messages(self):
        for many, messages in ((1, 1), (64, 1), (65, 2), (128, 2), (129, 3), (256, 4)):
            self.assertEqual(said_after(UP + filling(many - 1), tick(1000))[0][0], messages)

    def test_changes_alone_are_counted(self):
        start = UP + filling(255) + [tick(1000)]
        for many in (1, 64):
            changed = hear(0, NEAR, message(*nets(7, many, 9)))
            self.assertEqual(said_after(start, changed, tick(2000)), [many, sent((0, *nets(7, many, 16)))])
        changed = [hear(0, NEAR, message(*nets(0, 64, 9))), hear(0, NEAR, message(*nets(64, 1, 9)))]
        self.assertEqual(said_after(start, *changed, tick(2000)),
                         [64, 1, sent((0, *nets(0, 64, 16)), (0, *nets(64, 1, 16)))])

    def test_256_on_four_links(self):
        own = [(ip(10, 0, i), 24) for i in range(4)]
        messages = []
        for i in range(4):
            offers = [(address, bits, 16 if j == i else 1) for j, (address, bits) in enumerate(own)]
            offers += nets(0, 252, 16 if i == 0 else 2)
            messages += [(i, *offers[at:at + 64]) for at in range(0, 256, 64)]
        self.assertEqual(len(messages), 16)
        self.assertEqual(said_after(FOUR_UP + filling(252), tick(0), tick(999), tick(30000)),
                         [sent(*messages), 0, sent(*messages)])


class OnWhichLinks(unittest.TestCase):
    def links_told(self, *calls):
        """On which links the last of the calls sends messages, one number for each message."""
        answer = said_after(FOUR_UP, *calls)[-1]
        found = []
        at = 1
        while at < len(answer):
            found.append(answer[at])
            at += 2 + answer[at + 1]
        self.assertEqual(answer[0], len(found))
        return found

    def test_all_four_in_order(self):
        self.assertEqual(self.links_told(tick(0)), [0, 1, 2, 3])
        self.assertEqual(self.links_told(tick(30000)), [0, 1, 2, 3])

    def test_whatever_order_they_came_up_in(self):
        again = [down(0), down(2), link(2, ip(10, 0, 2, 1), 24), link(0, ip(10, 0, 0, 1), 24)]
        self.assertEqual(self.links_told(*again, tick(0)), [0, 1, 2, 3])

    def test_not_on_those_that_are_down(self):
        self.assertEqual(self.links_told(down(1), tick(0)), [0, 2, 3])
        self.assertEqual(self.links_told(down(0), down(1), down(3), tick(30000)), [2])

    def test_none_is_up(self):
        calls = [down(0), down(1), down(2), down(3)]
        self.assertEqual(said_after(FOUR_UP, *calls, tick(0)), [0, 0, 0, 0, 0])
        self.assertEqual(said_after(FOUR_UP, *calls, tick(30000)), [0, 0, 0, 0, 0])

    def test_one_is_up(self):
        self.assertEqual(said_after([begin(), link(3, OUR, 24)], tick(0)), [sent((3, OWN_16))])

    def test_links_messages_stand_together(self):
        self.assertEqual(self.links_told(down(1), *filling(100), tick(0)), [0, 0, 2, 2, 3, 3])


if __name__ == "__main__":
    unittest.main()
