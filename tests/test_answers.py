"""The interface: how calls are read, how answers are written, what is left alone."""

import inspect
import time
import unittest

from nearroutes import links
from nearroutes.links import answers
from tests.helper import (ACROSS, DUE, NEAR, OUR, ROUTES, TIME_END, UP_TWO, begin, down, filling, flat, hear, ip, link,
                          message, nets, said, tick, told, way)

LONG = flat(UP_TWO + [told(3), told(2, ACROSS, 1), down(0), down(0), link(0, OUR, 24), told(16, ACROSS, 1),
                      begin(TIME_END), begin(9), down(2), link(0, OUR, 24)] + filling(256))
LONG_ANSWERS = [0, 0, 0, 1, 1, 0, -4, 0, 1, -1, 0, -4, 0, 64, 64, 64, 63]

# All kinds of calls, refused ones too, while time moves.
MIXED = flat([begin(TIME_END), tick(0), DUE] + UP_TWO + filling(100) + [
    told(3), told(2, ACROSS, 1), tick(999), tick(1000), way(NEAR), way(2 ** 32), way(0), ROUTES, DUE, down(0),
    tick(2000), link(0, OUR, 24), tick(32000), DUE, told(1), tick(70000), told(1), ROUTES, tick(181000), tick(301000),
    ROUTES, DUE])

# Seconds: many times what the greatest lists take, so that a slow machine is no fault.
LONG_TIME = 10


class Answers(unittest.TestCase):
    def test_one_argument_named_calls(self):
        self.assertEqual(str(inspect.signature(answers)), "(calls)")
        self.assertEqual(answers.__module__, links.__name__)

    def test_each_answer_stands_behind_its_length(self):
        self.assertEqual(answers([0, 5]), [1, 0])
        self.assertEqual(answers([0, TIME_END]), [1, -1])
        self.assertEqual(answers([0, 5, 1, 0, OUR, 24, 2, 0, 2, 0, 0, 6]), [1, 0, 1, 0, 1, 0, 1, -4, 1, 0])
        self.assertEqual(answers([0, 5, 4, 4, 4, 5, 5, 0, 6, 7]), [1, 0, 1, -1, 1, 0, 1, -2, 1, 0, 2, 0, 30005])
        self.assertEqual(answers([0, 5, 1, 3, OUR, 24, 4, 5, 5, NEAR, 6, 7]),
                         [1, 0, 1, 0, 13, 1, 3, 10, 0, 1, 10, 0, 0, 0, 24, 16, 0, 0, 3, 0, 3, NEAR,
                          6, 1, ip(10), 24, 0, 3, 0, 2, 0, 30005])

    def test_calls_without_numbers(self):
        self.assertEqual(answers([0, 0, 6, 7, 6, 6, 7, 7]),
                         [1, 0, 1, 0, 2, 0, 30000, 1, 0, 1, 0, 2, 0, 30000, 2, 0, 30000])

    def test_a_long_list(self):
        self.assertEqual(answers(LONG), flat([1, number] for number in LONG_ANSWERS))

    def test_kinds(self):
        for calls in (LONG, MIXED):
            answered = answers(calls)
            self.assertIs(type(answered), list)
            for number in answered:
                self.assertIs(type(number), int)

    def test_a_refused_call_is_read_to_its_end(self):
        row = hear(7, 0, [0, 9, 2, 0] * 512)
        self.assertEqual(answers(flat([begin(TIME_END), row, begin(0), row, down(0), begin(1)])),
                         [1, -1, 1, -6, 1, 0, 1, -1, 1, -4, 1, 0])

    def test_rows_that_look_like_calls(self):
        for size in range(12):
            self.assertEqual(answers(flat([begin(), hear(0, NEAR, [0] * size), begin()])), [1, 0, 1, -4, 1, 0])

    def test_what_is_handed_in_stays(self):
        for calls in (LONG, MIXED):
            handed = list(calls)
            answers(handed)
            self.assertEqual(handed, calls)

    def test_what_is_given_back_is_a_new_list(self):
        handed = list(LONG)
        given = answers(handed)
        given.append(5)
        self.assertEqual((handed, answers(handed)), (LONG, given[:-1]))

    def test_twice_alike(self):
        for calls in (LONG, MIXED):
            self.assertEqual(answers(calls), answers(calls))
            self.assertEqual(answers(list(calls)), answers(calls))

    def test_nothing_is_kept(self):
        answers(flat(UP_TWO + filling(256)))
        self.assertEqual(answers(flat([begin(TIME_END), down(0), begin(0), down(0), link(0, OUR, 24), told(1)])),
                         [1, -1, 1, -6, 1, 0, 1, -4, 1, 0, 1, 1])
        answers(MIXED)
        self.assertEqual(answers(flat([begin(), tick(0), ROUTES, DUE])), [1, 0, 1, 0, 1, 0, 2, 0, 30000])

    def test_300_calls(self):
        calls = [begin()] + [link(0, OUR, 24), down(0)] * 149 + [link(0, OUR, 24)]
        self.assertEqual(answers(flat(calls)), [1, 0] * 300)

    def test_many_numbers(self):
        full = hear(0, NEAR, message(*nets(0, 64)))
        calls = UP_TWO + [full] * 30
        self.assertLessEqual(len(flat(calls)), 16000)
        self.assertEqual(answers(flat(calls)), [1, 0, 1, 0, 1, 0, 1, 64] + [1, 0] * 29)


class Greatest(unittest.TestCase):
    FOUR_UP = [begin()] + [link(i, ip(10, 0, i, 1), 24) for i in range(4)] + filling(252)

    def answered(self, calls):
        """What calls of the greatest size answer, which must not take long."""
        self.assertLessEqual(len(calls), 300)
        self.assertLessEqual(len(flat(calls)), 16000)
        start = time.monotonic()
        found = said(*calls)
        self.assertLess(time.monotonic() - start, LONG_TIME)
        return found

    def filled_up(self, *calls):
        """So many of the calls, one behind another and anew, as make 300 with the first ones."""
        more = [calls[at % len(calls)] for at in range(300 - len(self.FOUR_UP))]
        return self.answered(self.FOUR_UP + more)[len(self.FOUR_UP):]

    def test_routes(self):
        for answer in self.filled_up(ROUTES):
            self.assertEqual((answer[0], len(answer)), (256, 1281))

    def test_way(self):
        for answer in self.filled_up(way(ip(192, 168, 0, 251)), way(ip(10, 0, 3, 9)), way(2 ** 32 - 1)):
            self.assertIn(answer, ([1, 0, NEAR], [0, 3, ip(10, 0, 3, 9)], -2))

    def test_due(self):
        self.assertEqual(self.filled_up(DUE), [[0, 0]] * (300 - len(self.FOUR_UP)))

    def test_all_told_by_as_many_ticks_as_may_be(self):
        calls = list(self.FOUR_UP)
        now = 0
        while len(calls) < 295:
            now += 30000
            calls.append(tick(now))
            # What is said again while there is room for it stays good.
            if now % 150000 == 0 and len(flat(calls + filling(252))) < 15000:
                calls += filling(252)
        found = self.answered(calls)
        full = [answer for answer in found if isinstance(answer, list) and answer[0] == 16]
        self.assertGreater(len(full), 30)
        for answer in full:
            self.assertEqual(len(answer), 1 + 16 * (2 + 2 + 64 * 8))

    def test_lost_and_found_by_as_many_calls_as_may_be(self):
        calls = list(self.FOUR_UP)
        now = 0
        while len(calls) < 297:
            now += 1000
            calls += [down(0), link(0, OUR, 24), tick(now)]
        self.assertEqual(self.answered(calls)[-1][0], 4)


if __name__ == "__main__":
    unittest.main()
