"""Clocks: points [3], [4] and [5], and the interface's section on postbooks/clocks.py."""

import itertools
import unittest

from postbooks.clocks import before, beside, ready

CUT = ("cut",)
BIG = 10 ** 100


def letter(sender, *stamp):
    return (sender, stamp, CUT)


class Ready(unittest.TestCase):
    def test_the_next_one_of_its_sender(self):
        self.assertIs(ready(letter(0, 1, 0, 0), (0, 0, 0)), True)
        self.assertIs(ready(letter(0, 4, 0, 0), (3, 0, 0)), True)
        self.assertIs(ready(letter(2, 0, 0, 8), (0, 0, 7)), True)

    def test_not_one_that_is_there_already(self):
        self.assertIs(ready(letter(0, 3, 0, 0), (3, 0, 0)), False)
        self.assertIs(ready(letter(0, 1, 0, 0), (3, 0, 0)), False)

    def test_not_one_ahead_of_the_next(self):
        self.assertIs(ready(letter(0, 2, 0, 0), (0, 0, 0)), False)
        self.assertIs(ready(letter(0, 9, 0, 0), (3, 0, 0)), False)

    def test_the_others_counted_fewer_as_many_and_one_more(self):
        for sender, other in itertools.permutations(range(3), 2):
            clock = [5, 5, 5]
            stamp = [5, 5, 5]
            stamp[sender] = 6
            for many, answer in ((0, True), (4, True), (5, True), (6, False), (7, False)):
                stamp[other] = many
                with self.subTest(sender=sender, other=other, many=many):
                    self.assertIs(ready(letter(sender, *stamp), tuple(clock)), answer)

    def test_the_last_of_many_offices_is_asked_too(self):
        clock = (0,) * 15
        self.assertIs(ready(letter(0, 1, *(0,) * 14), clock), True)
        self.assertIs(ready(letter(0, 1, *(0,) * 13, 1), clock), False)
        self.assertIs(ready(letter(14, 1, *(0,) * 13, 1), clock), False)

    def test_one_office_alone(self):
        self.assertIs(ready(letter(0, 1), (0,)), True)
        self.assertIs(ready(letter(0, 1), (1,)), False)
        self.assertIs(ready(letter(0, 2), (0,)), False)

    def test_what_a_letter_tells_makes_no_difference(self):
        self.assertIs(ready((0, (1, 0), ("pay", 1, 5)), (0, 0)), True)
        self.assertIs(ready((0, (1, 1), ("pay", 1, 5)), (0, 0)), False)

    def test_numbers_of_a_hundred_figures(self):
        self.assertIs(ready(letter(1, BIG, BIG + 1), (BIG, BIG)), True)
        self.assertIs(ready(letter(1, BIG + 1, BIG + 1), (BIG, BIG)), False)
        self.assertIs(ready(letter(1, BIG, BIG + 2), (BIG, BIG)), False)


class Before(unittest.TestCase):
    def test_letters_of_one_sender(self):
        self.assertIs(before(letter(0, 1, 0), letter(0, 2, 0)), True)
        self.assertIs(before(letter(0, 1, 0), letter(0, 9, 0)), True)
        self.assertIs(before(letter(0, 2, 0), letter(0, 1, 0)), False)

    def test_the_others_stamp_counts_more_as_many_or_fewer(self):
        one = letter(0, 3, 0, 0)
        self.assertIs(before(one, letter(1, 4, 1, 0)), True)
        self.assertIs(before(one, letter(1, 3, 1, 0)), True)
        self.assertIs(before(one, letter(1, 2, 1, 0)), False)

    def test_it_is_asked_by_the_other_ones_stamp_alone(self):
        one = letter(0, 1, 7, 7)
        self.assertIs(before(one, letter(1, 1, 8, 0)), True)
        self.assertIs(before(letter(1, 1, 8, 0), one), False)

    def test_no_letter_is_before_one_of_its_own_name(self):
        one = letter(0, 1, 0)
        self.assertIs(before(one, one), False)
        self.assertIs(before(one, letter(0, 1, 5)), False)
        self.assertIs(before(letter(0, 1, 5), one), False)
        self.assertIs(before(one, (0, (1, 0), ("pay", 1, 2))), False)

    def test_unlike_senders_with_the_same_stamp_have_unlike_names(self):
        self.assertIs(before(letter(0, 1, 1), letter(1, 1, 1)), True)
        self.assertIs(before(letter(1, 1, 1), letter(0, 1, 1)), True)

    def test_one_office_alone(self):
        self.assertIs(before(letter(0, 1), letter(0, 2)), True)
        self.assertIs(before(letter(0, 2), letter(0, 1)), False)
        self.assertIs(before(letter(0, 2), letter(0, 2)), False)

    def test_numbers_of_a_hundred_figures(self):
        one = letter(0, BIG, 0)
        self.assertIs(before(one, letter(1, BIG, 1)), True)
        self.assertIs(before(one, letter(1, BIG - 1, 1)), False)


class Beside(unittest.TestCase):
    def test_neither_is_before_the_other(self):
        one = letter(0, 1, 0, 0)
        other = letter(1, 0, 1, 0)
        self.assertIs(beside(one, other), True)
        self.assertIs(beside(other, one), True)

    def test_what_else_both_count_makes_no_difference(self):
        self.assertIs(beside(letter(0, 4, 2, 9), letter(1, 3, 3, 1)), True)

    def test_not_where_one_is_before_the_other(self):
        one = letter(0, 1, 0, 0)
        other = letter(1, 1, 1, 0)
        self.assertIs(beside(one, other), False)
        self.assertIs(beside(other, one), False)
        self.assertIs(beside(letter(0, 1, 0), letter(0, 2, 0)), False)

    def test_not_where_the_names_are_the_same(self):
        one = letter(0, 1, 0)
        self.assertIs(beside(one, one), False)
        self.assertIs(beside(one, letter(0, 1, 5)), False)
        self.assertIs(beside(letter(0, 1, 5), one), False)
        self.assertIs(beside(one, (0, (1, 0), ("pay", 1, 2))), False)

    def test_one_office_alone(self):
        self.assertIs(beside(letter(0, 1), letter(0, 1)), False)
        self.assertIs(beside(letter(0, 1), letter(0, 2)), False)
        self.assertIs(beside(letter(0, 2), letter(0, 1)), False)

    def test_many_offices(self):
        one = letter(0, 1, *(0,) * 14)
        other = letter(14, *(0,) * 14, 1)
        self.assertIs(beside(one, other), True)


if __name__ == "__main__":
    unittest.main()
