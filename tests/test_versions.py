"""textatrest.versions: points 3 and 4 of the document."""

import unittest
from itertools import product

from textatrest.versions import includes, joined, knows, time_of, with_itself

HUGE = 10 ** 40


def versions(hands, most):
    return list(product(range(most + 1), repeat=hands))


def deed(hand, number, clock, seen):
    return (hand, number, clock, seen, ("note",))


class Includes(unittest.TestCase):
    def test_a_version_includes_itself(self):
        for version in ((0, 0), (3, 1), (0, 2, 5), (4, 0, 0, 9)):
            with self.subTest(version):
                self.assertIs(includes(version, version), True)

    def test_every_version_includes_all_zeros(self):
        for hands in (2, 3, 4):
            zeros = (0,) * hands
            for version in versions(hands, 2):
                with self.subTest(version):
                    self.assertIs(includes(version, zeros), True)
                    self.assertIs(includes(zeros, version), version == zeros)

    def test_one_greater_at_one_place(self):
        for hands in (2, 3, 4):
            less = (3,) * hands
            for place in range(hands):
                more = less[:place] + (4,) + less[place + 1:]
                with self.subTest(more):
                    self.assertIs(includes(more, less), True)
                    self.assertIs(includes(less, more), False)

    def test_neither_includes_the_other(self):
        for one, other in (
            ((1, 0), (0, 1)),
            ((2, 5, 0), (2, 4, 1)),
            ((0, 7, 7, 7), (1, 0, 0, 0)),
            ((9, 9, 9, 0), (0, 0, 0, 1)),
        ):
            with self.subTest(one=one, other=other):
                self.assertIs(includes(one, other), False)
                self.assertIs(includes(other, one), False)

    def test_it_is_more_than_the_order_of_tuples(self):
        self.assertGreater((5, 0, 0), (1, 2, 3))
        self.assertIs(includes((5, 0, 0), (1, 2, 3)), False)

    def test_large_numbers(self):
        self.assertIs(includes((HUGE, HUGE), (HUGE, HUGE)), True)
        self.assertIs(includes((HUGE, HUGE + 1), (HUGE, HUGE)), True)
        self.assertIs(includes((HUGE, HUGE), (HUGE, HUGE + 1)), False)


class Joined(unittest.TestCase):
    def test_ordinary_ones(self):
        self.assertEqual(joined((1, 4), (3, 2)), (3, 4))
        self.assertEqual(joined((0, 5, 1), (2, 0, 1)), (2, 5, 1))
        self.assertEqual(joined((1, 0, 3, 0), (0, 2, 0, 4)), (1, 2, 3, 4))

    def test_equal_ones_and_all_zeros(self):
        for hands in (2, 3, 4):
            zeros = (0,) * hands
            for version in versions(hands, 2):
                with self.subTest(version):
                    self.assertEqual(joined(version, version), version)
                    self.assertEqual(joined(version, zeros), version)
                    self.assertEqual(joined(zeros, version), version)

    def test_one_greater_at_one_place(self):
        for hands in (2, 3, 4):
            less = (3,) * hands
            for place in range(hands):
                more = less[:place] + (4,) + less[place + 1:]
                with self.subTest(more):
                    self.assertEqual(joined(more, less), more)
                    self.assertEqual(joined(less, more), more)

    def test_it_is_a_version(self):
        found = joined((1, 0), (0, 1))
        self.assertIsInstance(found, tuple)
        self.assertEqual(len(found), 2)

    def test_it_includes_both_and_no_lesser_version_does(self):
        # A version includes the joined one exactly if it includes both: so it is the least.
        for hands, most in ((2, 3), (3, 2), (4, 1)):
            every = versions(hands, most)
            for one, other in product(every, repeat=2):
                found = joined(one, other)
                for version in every:
                    both = includes(version, one) and includes(version, other)
                    self.assertEqual(includes(version, found), both, (one, other, version))

    def test_large_numbers(self):
        self.assertEqual(joined((HUGE, 1, 0), (HUGE - 1, HUGE, 0)), (HUGE, HUGE, 0))

    def test_the_arguments_stay_as_they_were(self):
        one, other = (1, 4, 0), (3, 2, 0)
        includes(one, other)
        joined(one, other)
        self.assertEqual((one, other), ((1, 4, 0), (3, 2, 0)))


class Knows(unittest.TestCase):
    def test_of_another_hand_at_the_edge_of_the_count(self):
        later = deed(0, 2, 9, (2, 3))
        self.assertIs(knows(later, deed(1, 2, 1, (0, 2))), True)
        self.assertIs(knows(later, deed(1, 3, 1, (0, 3))), False)
        self.assertIs(knows(later, deed(1, 4, 1, (0, 4))), False)

    def test_of_the_same_hand_at_the_edge_of_the_count(self):
        later = deed(1, 3, 9, (0, 3))
        self.assertIs(knows(later, deed(1, 2, 1, (0, 2))), True)
        self.assertIs(knows(later, deed(1, 3, 9, (0, 3))), False)
        self.assertIs(knows(later, deed(1, 4, 10, (0, 4))), False)

    def test_each_hand_has_its_own_count(self):
        for hands in (2, 3, 4):
            seen = (3, 0, 2, 1)[:hands]
            later = deed(0, 3, 20, seen)
            for hand in range(hands):
                for number in range(5):
                    other = deed(hand, number, 1, (0,) * hands)
                    with self.subTest(seen=seen, hand=hand, number=number):
                        self.assertIs(knows(later, other), number < seen[hand])

    def test_no_deed_is_known_at_first(self):
        first = deed(0, 0, 1, (0, 0, 0))
        for hand in range(3):
            self.assertIs(knows(first, deed(hand, 0, 1, (0, 0, 0))), False)

    def test_it_asks_what_is_seen_and_not_the_clock(self):
        self.assertIs(knows(deed(0, 0, 100, (0, 0)), deed(1, 0, 1, (0, 0))), False)

    def test_of_two_deeds_the_first_is_asked(self):
        early, late = deed(0, 0, 1, (0, 0)), deed(1, 0, 2, (1, 0))
        self.assertIs(knows(late, early), True)
        self.assertIs(knows(early, late), False)

    def test_large_numbers(self):
        later = deed(0, 0, HUGE, (0, HUGE))
        self.assertIs(knows(later, deed(1, HUGE - 1, 1, (0, HUGE - 1))), True)
        self.assertIs(knows(later, deed(1, HUGE, 1, (0, HUGE))), False)


class WithItself(unittest.TestCase):
    def test_it_is_what_the_deed_has_seen_and_the_deed(self):
        self.assertEqual(with_itself(deed(0, 2, 9, (2, 3))), (3, 3))
        self.assertEqual(with_itself(deed(1, 3, 9, (2, 3))), (2, 4))
        for hand in range(4):
            seen = (4, 5, 6, 7)
            expected = tuple([many + (at == hand) for at, many in enumerate(seen)])
            self.assertEqual(with_itself(deed(hand, seen[hand], 9, seen)), expected)


class TimeOf(unittest.TestCase):
    def test_it_is_the_clock_and_the_hand(self):
        self.assertEqual(time_of(deed(1, 5, 7, (2, 5))), (7, 1))
        self.assertEqual(time_of(deed(3, 0, 1, (0, 0, 0, 0))), (1, 3))
        self.assertEqual(time_of(deed(0, 4, HUGE, (4, 0, 0))), (HUGE, 0))

    def test_the_greater_clock_is_later_whatever_the_hand(self):
        self.assertGreater(time_of(deed(0, 0, 3, (0, 2))), time_of(deed(1, 1, 2, (0, 1))))

    def test_at_the_same_clock_the_greater_hand_is_later(self):
        times = [time_of(deed(hand, 9 - hand, 4, (0, 0, 0, 0))) for hand in range(4)]
        self.assertEqual(times, sorted(times))
        self.assertEqual(len(set(times)), 4)

    def test_the_arguments_stay_as_they_were(self):
        one, other = deed(1, 5, 7, (2, 5)), deed(0, 1, 2, (1, 0))
        knows(one, other)
        time_of(one)
        self.assertEqual(one, (1, 5, 7, (2, 5), ("note",)))
        self.assertEqual(other, (0, 1, 2, (1, 0), ("note",)))


if __name__ == "__main__":
    unittest.main()
