"""textatrest.paths: points 10 and 11 of the document."""

import unittest
from itertools import product

from making import plain_before
from textatrest.paths import comes_before, step_of


class Steps(unittest.TestCase):
    def test_it_has_the_time_of_the_put_and_the_index(self):
        put = (1, 4, 7, (2, 4), ("put", None, "abc"))
        self.assertEqual(step_of(put, 0), (7, 1, 0))
        self.assertEqual(step_of(put, 2), (7, 1, 2))
        self.assertEqual(step_of((3, 0, 1, (0, 0, 0, 0), ("put", (0, 0, 0), "a")), 0), (1, 3, 0))

    def test_the_deed_stays_as_it_was(self):
        put = (1, 4, 7, (2, 4), ("put", (0, 0, 1), "abc"))
        step_of(put, 1)
        self.assertEqual(put, (1, 4, 7, (2, 4), ("put", (0, 0, 1), "abc")))


class Order(unittest.TestCase):
    def check_before(self, one, other):
        with self.subTest(one=one, other=other):
            self.assertIs(comes_before(one, other), True)
            self.assertIs(comes_before(other, one), False)

    def test_equal_paths(self):
        for path in ((), ((1, 0, 0),), ((1, 0, 3), (2, 1, 0)), ((9, 3, 7),) * 5):
            with self.subTest(path):
                self.assertIs(comes_before(path, path), False)
                self.assertIs(comes_before(path, tuple(list(path))), False)

    def test_a_beginning_comes_first(self):
        whole = ((1, 0, 3), (2, 1, 0), (5, 0, 7))
        for many in range(3):
            self.check_before(whole[:many], whole)
            self.check_before(whole[:many], whole[:many + 1])

    def test_a_beginning_comes_first_whatever_the_next_step_is(self):
        for step in ((1, 0, 0), (99, 3, 0), (1, 3, 7), (2, 1, 0)):
            self.check_before(((2, 1, 4),), ((2, 1, 4), step))

    def test_the_later_clock_comes_first(self):
        self.check_before(((2, 0, 0),), ((1, 0, 0),))
        self.check_before(((10, 0, 0),), ((9, 0, 0),))
        self.check_before(((2, 0, 0),), ((1, 3, 0),))
        self.check_before(((2, 0, 7),), ((1, 0, 0),))

    def test_the_greater_hand_comes_first_at_the_same_clock(self):
        self.check_before(((4, 1, 0),), ((4, 0, 0),))
        self.check_before(((4, 3, 0),), ((4, 2, 0),))
        self.check_before(((4, 1, 7),), ((4, 0, 0),))

    def test_of_the_same_put_the_smaller_index_comes_first(self):
        self.check_before(((4, 1, 0),), ((4, 1, 1),))
        self.check_before(((4, 1, 2),), ((4, 1, 7),))

    def test_of_other_puts_the_index_does_not_matter(self):
        for index, other_index in product((0, 3, 7), repeat=2):
            self.check_before(((4, 1, index),), ((4, 0, other_index),))
            self.check_before(((5, 0, index),), ((4, 1, other_index),))

    def test_the_first_steps_that_differ_decide(self):
        ahead = ((1, 0, 3), (2, 1, 0))
        self.check_before(ahead + ((4, 0, 0),), ahead + ((3, 1, 0),))
        self.check_before(ahead + ((3, 1, 0),), ahead + ((3, 0, 0),))
        self.check_before(ahead + ((3, 1, 0),), ahead + ((3, 1, 1),))
        # Behind the step that decides, nothing counts: neither what it is nor how much.
        self.check_before(((1, 0, 0), (2, 0, 7)), ((1, 0, 1),))
        self.check_before(((1, 0, 0), (2, 0, 7)), ((1, 0, 1), (9, 3, 0)))
        self.check_before(((3, 0, 0),), ((2, 0, 0), (9, 3, 0)))
        self.check_before(((3, 0, 0), (4, 0, 0)), ((2, 0, 0), (9, 3, 0)))

    def test_large_numbers(self):
        self.check_before(((10 ** 30 + 1, 0, 0),), ((10 ** 30, 0, 0),))

    def test_long_paths(self):
        long = tuple([(clock, 0, 0) for clock in range(1, 3000)])
        self.check_before(long, long + ((5000, 1, 0),))
        self.check_before(long + ((5000, 1, 0),), long + ((5000, 0, 0),))


class Rows(unittest.TestCase):
    steps = list(product((1, 2), (0, 1), (0, 1)))
    paths = [(), *[(step,) for step in steps], *product(steps, repeat=2)]

    def test_it_is_what_the_document_says(self):
        for one, other in product(self.paths, repeat=2):
            self.assertIs(comes_before(one, other), plain_before(one, other), (one, other))

    def test_never_both_ways_and_of_two_different_ones_always_one(self):
        for one, other in product(self.paths, repeat=2):
            ways = [comes_before(one, other), comes_before(other, one)]
            self.assertEqual(ways.count(True), 0 if one == other else 1, (one, other))

    def test_transitive(self):
        # In an order, and only in one, as many come before each path as its place in the row says.
        many = [len([other for other in self.paths if comes_before(other, one)]) for one in self.paths]
        self.assertEqual(sorted(many), list(range(len(self.paths))))
        some = self.paths[::3]
        for one, two, three in product(some, repeat=3):
            if comes_before(one, two) and comes_before(two, three):
                self.assertIs(comes_before(one, three), True, (one, two, three))

    def test_the_arguments_stay_as_they_were(self):
        one, other = ((1, 0, 0), (2, 1, 3)), ((1, 0, 0), (2, 0, 3))
        comes_before(one, other)
        self.assertEqual((one, other), (((1, 0, 0), (2, 1, 3)), ((1, 0, 0), (2, 0, 3))))


if __name__ == "__main__":
    unittest.main()
