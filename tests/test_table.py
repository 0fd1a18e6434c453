"""What 'offered' does as time goes by, and what it marks as changed."""

import unittest

from nearroutes.table import Table

NET = (0, 8)


class Offered(unittest.TestCase):
    def table(self, *offers):
        table = Table()
        for offer in offers:
            table.offer(*offer)
        if NET in table.by_network:
            table.by_network[NET].changed = False
        return table

    def after(self, table, far, link, neighbour, now):
        """The route's course, till when it's good, from when it's free, when forgotten, whether changed."""
        table.offer(NET, far, link, neighbour, now)
        route = table.by_network[NET]
        return route.course(), route.good_till, route.free_from, route.forgotten_at, route.changed

    def test_the_same_distance_again_is_good_for_longer(self):
        course, good_till, free, forgotten, changed = self.after(self.table((NET, 3, 0, 9, 100)), 3, 0, 9, 500)
        self.assertEqual((course, good_till, changed), ((3, 0, 9), 180500, False))

    def test_another_distance_is_good_for_longer(self):
        for far in (2, 4, 15):
            course, good_till, free, forgotten, changed = self.after(self.table((NET, 3, 0, 9, 100)), far, 0, 9, 500)
            self.assertEqual((course, good_till, changed), ((far, 0, 9), 180500, True))

    def test_another_neighbours_offer_does_not_make_it_good_for_longer(self):
        for far in (3, 4, 16):
            course, good_till, free, forgotten, changed = self.after(self.table((NET, 3, 0, 9, 100)), far, 0, 8, 500)
            self.assertEqual((course, good_till, changed), ((3, 0, 9), 180100, False))

    def test_a_nearer_one(self):
        for link, neighbour in ((0, 8), (1, 9)):
            table = self.table((NET, 3, 0, 9, 100))
            course, good_till, free, forgotten, changed = self.after(table, 2, link, neighbour, 500)
            self.assertEqual((course, good_till, changed), ((2, link, neighbour), 180500, True))

    def test_lost(self):
        course, good_till, free, forgotten, changed = self.after(self.table((NET, 3, 0, 9, 100)), 16, 0, 9, 500)
        self.assertEqual((course, free, forgotten, changed), ((16, 0, 9), 60500, 120500, True))

    def lost(self):
        return self.table((NET, 3, 0, 9, 100), (NET, 16, 0, 9, 500))

    def test_lost_again_keeps_its_times(self):
        course, good_till, free, forgotten, changed = self.after(self.lost(), 16, 0, 9, 900)
        self.assertEqual((course, free, forgotten, changed), ((16, 0, 9), 60500, 120500, False))

    def test_found_again_at_once_by_its_own(self):
        for far in (1, 3, 15):
            course, good_till, free, forgotten, changed = self.after(self.lost(), far, 0, 9, 501)
            self.assertEqual((course, good_till, changed), ((far, 0, 9), 180501, True))

    def test_others_wait_for_60000(self):
        for link, neighbour in ((0, 8), (1, 9)):
            for far in (1, 15):
                course, good_till, free, forgotten, changed = self.after(self.lost(), far, link, neighbour, 60499)
                self.assertEqual((course, free, forgotten, changed), ((16, 0, 9), 60500, 120500, False))
                course, good_till, free, forgotten, changed = self.after(self.lost(), far, link, neighbour, 60500)
                self.assertEqual((course, good_till, changed), ((far, link, neighbour), 240500, True))

    def test_others_never_take_it_with_16(self):
        course, good_till, free, forgotten, changed = self.after(self.lost(), 16, 0, 8, 70000)
        self.assertEqual((course, free, forgotten, changed), ((16, 0, 9), 60500, 120500, False))

    def test_an_own_one_stays(self):
        for far in (1, 16):
            table = Table()
            table.put_own(NET, 0, 0)
            table.by_network[NET].changed = False
            course, good_till, free, forgotten, changed = self.after(table, far, 0, 9, 200000)
            self.assertEqual((course, changed), ((0, 0, 0), False))

    def test_an_own_one_that_was_lost_is_taken_later(self):
        for now, far in ((60099, 16), (60100, 4)):
            table = Table()
            table.put_own(NET, 2, 0)
            table.lose_all_by(2, 100)
            self.assertEqual(self.after(table, 4, 2, 9, now)[0][0], far)

    def test_none_at_16(self):
        self.assertEqual(self.table((NET, 16, 0, 9, 100)).by_network, {})


if __name__ == "__main__":
    unittest.main()
