"""The interface: how calls are read, how answers are written, what is left alone."""

import inspect
import unittest

from nearroutes import links
from nearroutes.links import answers
from tests.helper import (ACROSS, NEAR, OUR, TIME_END, UP_TWO, begin, down, filling, flat, hear, link, message, nets,
                          told)

LONG = flat(UP_TWO + [told(3), told(2, ACROSS, 1), down(0), down(0), link(0, OUR, 24), told(16, ACROSS, 1),
                      begin(TIME_END), begin(9), down(2), link(0, OUR, 24)] + filling(256))
LONG_ANSWERS = [0, 0, 0, 1, 1, 0, -4, 0, 1, -1, 0, -4, 0, 64, 64, 64, 63]


class Answers(unittest.TestCase):
    def test_one_argument_named_calls(self):
        self.assertEqual(str(inspect.signature(answers)), "(calls)")
        self.assertEqual(answers.__module__, links.__name__)

    def test_each_answer_stands_behind_its_length(self):
        self.assertEqual(answers([0, 5]), [1, 0])
        self.assertEqual(answers([0, TIME_END]), [1, -1])
        self.assertEqual(answers([0, 5, 1, 0, OUR, 24, 2, 0, 2, 0, 0, 6]), [1, 0, 1, 0, 1, 0, 1, -4, 1, 0])

    def test_a_long_list(self):
        self.assertEqual(answers(LONG), flat([1, number] for number in LONG_ANSWERS))

    def test_kinds(self):
        answered = answers(LONG)
        self.assertIs(type(answered), list)
        for number in answered:
            self.assertIs(type(number), int)

    def test_a_refused_call_is_read_to_its_end(self):
        row = hear(7, 0, [0, 9, 2, 0] * 512)
        self.assertEqual(answers(flat([begin(TIME_END), row, begin(0), row, down(0), begin(1)])),
                         [1, -1, 1, -6, 1, 0, 1, -1, 1, -4, 1, 0])

    def test_rows_that_look_like_calls(self):
        for size in range(12):
            self.assertEqual(answers(flat([begin(), hear(0, NEAR, [0] * size), begin()])), [1, 0, 1, -4, 1, 0])

    def test_what_is_handed_in_stays(self):
        handed = list(LONG)
        answers(handed)
        self.assertEqual(handed, LONG)

    def test_what_is_given_back_is_a_new_list(self):
        handed = list(LONG)
        given = answers(handed)
        given.append(5)
        self.assertEqual((handed, answers(handed)), (LONG, given[:-1]))

    def test_twice_alike(self):
        self.assertEqual(answers(LONG), answers(LONG))
        self.assertEqual(answers(list(LONG)), answers(LONG))

    def test_nothing_is_kept(self):
        answers(flat(UP_TWO + filling(256)))
        self.assertEqual(answers(flat([begin(TIME_END), down(0), begin(0), down(0), link(0, OUR, 24), told(1)])),
                         [1, -1, 1, -6, 1, 0, 1, -4, 1, 0, 1, 1])

    def test_300_calls(self):
        calls = [begin()] + [link(0, OUR, 24), down(0)] * 149 + [link(0, OUR, 24)]
        self.assertEqual(answers(flat(calls)), [1, 0] * 300)

    def test_many_numbers(self):
        full = hear(0, NEAR, message(*nets(0, 64)))
        calls = UP_TWO + [full] * 30
        self.assertLessEqual(len(flat(calls)), 16000)
        self.assertEqual(answers(flat(calls)), [1, 0, 1, 0, 1, 0, 1, 64] + [1, 0] * 29)


if __name__ == "__main__":
    unittest.main()
