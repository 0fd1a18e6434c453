"""What is a message, and what isn't."""

import unittest

from nearroutes.message import offers_from
from tests.helper import FAR_NET, NEAR, UP, hear, ip, message, nets, offer, said_after


class Message(unittest.TestCase):
    def refused(self, octets):
        self.assertIsNone(offers_from(octets))
        self.assertEqual(said_after(UP, hear(0, NEAR, octets)), [-3])

    def taken(self, octets):
        self.assertIsNotNone(offers_from(octets))
        self.assertGreaterEqual(said_after(UP, hear(0, NEAR, octets))[0], 0)

    def test_its_numbers(self):
        octets = [0, 2, 172, 16, 0, 0, 12, 3, 0, 0, 1, 2, 3, 4, 32, 16, 0, 0]
        self.assertEqual(offers_from(octets), [(FAR_NET, 3), ((ip(1, 2, 3, 4), 32), 16)])

    def test_too_short(self):
        whole = message((FAR_NET[0], FAR_NET[1], 3), (0, 0, 1))
        for size in range(len(whole)):
            self.refused(whole[:size])

    def test_too_long(self):
        whole = message((FAR_NET[0], FAR_NET[1], 3))
        for more in ([0], [0] * 8, offer(0, 0, 1), [0] * 2038):
            self.refused(whole + more)

    def test_how_many(self):
        self.refused([0, 0])
        self.refused([0, 0] + offer(0, 0, 1))
        self.taken(message(*nets(0, 1)))
        self.taken(message(*nets(0, 64)))
        self.refused(message(*nets(0, 65)))
        self.refused(message(*nets(0, 255)))

    def test_how_many_has_two_bytes(self):
        self.refused([1, 0] + message(*nets(0, 1))[2:])
        self.refused([1, 1] + message(*nets(0, 1))[2:])
        self.refused([1] + message(*nets(0, 1))[2:])

    def test_how_many_there_are_not(self):
        self.refused([0, 2] + offer(0, 0, 1))
        self.refused([0, 1] + offer(0, 0, 1) + offer(0, 1, 1))

    def test_addresses(self):
        for address, bits in ((0, 0), (0, 32), (2 ** 32 - 1, 32), (2 ** 31, 1), (2 ** 32 - 2, 31), (0, 31), (0, 1)):
            self.taken(message((address, bits, 1)))
        for address, bits in ((1, 0), (2 ** 31, 0), (2 ** 30, 1), (1, 31), (2 ** 32 - 1, 31), (FAR_NET[0], 11),
                              (FAR_NET[0] + 1, FAR_NET[1])):
            self.refused(message((address, bits, 1)))

    def test_bits(self):
        for bits in range(33):
            self.taken(message((0, bits, 1)))
        for bits in (33, 34, 64, 255):
            self.refused(message((0, bits, 1)))
            self.refused(message((2 ** 32 - 1, bits, 1)))

    def test_distances(self):
        for far in range(1, 17):
            self.taken(message((FAR_NET[0], FAR_NET[1], far)))
        for far in (0, 17, 128, 255):
            self.refused(message((FAR_NET[0], FAR_NET[1], far)))

    def test_the_end(self):
        for rest in (1, 255, 256, 65535):
            self.refused([0, 1] + offer(FAR_NET[0], FAR_NET[1], 3, rest))

    def test_what_is_wrong_at_each_place(self):
        wrong = [(ip(10, 0, 0, 1), 24, 1), (0, 33, 1), (0, 0, 0), (0, 0, 17), (0, 0, 1, 1)]
        for bad in wrong:
            for at in (0, 31, 63):
                offers = nets(0, 64)
                offers[at] = bad
                self.refused(message(*offers))


if __name__ == "__main__":
    unittest.main()
