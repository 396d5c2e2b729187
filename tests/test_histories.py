"""textatrest.histories: versions, clocks, the state of writings and of signs (points 4, 6, 8, 9)."""

import unittest
from itertools import product

from making import Text, plain_active, plain_dead, plain_final, plain_order, plain_shown_sign, random_texts, sign_of
from textatrest.histories import (
    clock_for, has_left, is_active, is_dead, is_final, is_shown, version_of, within,
)

PUT = ("put", None, "abc")
NOTE = ("note",)


def history_of(hands):
    """Each hand does two notes, and hears the first note of the hand before it in between."""
    text = Text(hands)
    for hand in range(hands):
        text.do(hand, NOTE)
        if hand > 0:
            text.hear(hand, hand - 1)
        text.do(hand, NOTE)
    text.hear_all()
    return text.histories[0]


class Versions(unittest.TestCase):
    def test_empty_histories(self):
        for hands in (2, 3, 4):
            self.assertEqual(version_of(hands, ()), (0,) * hands)
            self.assertEqual(within((), (0,) * hands), ())
            self.assertEqual(clock_for((), (0,) * hands), 1)

    def test_the_counts_of_each_hand(self):
        for hands in (2, 3, 4):
            history = history_of(hands)
            self.assertEqual(version_of(hands, history), (2,) * hands)
            self.assertEqual(version_of(hands, history[:1]), (1,) + (0,) * (hands - 1))
            for many in range(len(history) + 1):
                counts = tuple([sum([deed[0] == hand for deed in history[:many]]) for hand in range(hands)])
                self.assertEqual(version_of(hands, history[:many]), counts)

    def test_it_is_a_tuple_with_all_hands_also_those_without_deeds(self):
        text = Text(4)
        text.do_all(2, NOTE, NOTE, NOTE)
        self.assertEqual(version_of(4, text.histories[2]), (0, 0, 3, 0))
        self.assertIsInstance(version_of(4, text.histories[2]), tuple)


class Within(unittest.TestCase):
    def test_every_version_and_the_order_of_the_history(self):
        for hands in (2, 3, 4):
            history = history_of(hands)
            for version in product(range(3), repeat=hands):
                found = within(history, version)
                self.assertIsInstance(found, tuple)
                self.assertEqual(list(found), [deed for deed in history if deed[1] < version[deed[0]]])

    def test_the_order_is_that_of_the_history_not_that_of_time(self):
        one, two = Text(2), Text(2)
        for text in (one, two):
            text.do(0, NOTE)
            text.do(1, PUT)
        one.hear(0, 1)
        two.hear(1, 0)
        for history in (one.histories[0], two.histories[1]):
            self.assertEqual(within(history, (1, 1)), history)
        self.assertEqual([deed[0] for deed in within(two.histories[1], (1, 1))], [1, 0])

    def test_a_version_beyond_the_history(self):
        history = history_of(3)
        self.assertEqual(within(history, (9, 9, 9)), history)

    def test_the_history_stays_as_it_was(self):
        history = history_of(2)
        before = repr(history)
        within(history, (1, 1))
        version_of(2, history)
        clock_for(history, (1, 1))
        self.assertEqual(repr(history), before)


class Clocks(unittest.TestCase):
    def test_one_more_than_the_greatest_included(self):
        for hands in (2, 3, 4):
            history = history_of(hands)
            for version in product(range(3), repeat=hands):
                clocks = [deed[2] for deed in history if deed[1] < version[deed[0]]]
                self.assertEqual(clock_for(history, version), max(clocks) + 1 if clocks else 1)

    def test_one_if_none_is_included(self):
        for hands in (2, 3, 4):
            self.assertEqual(clock_for(history_of(hands), (0,) * hands), 1)

    def test_the_greatest_need_not_be_the_last(self):
        history = ((0, 0, 9, (0, 0), NOTE), (1, 0, 1, (0, 0), NOTE))
        self.assertEqual(clock_for(history, (1, 1)), 10)
        self.assertEqual(clock_for(history, (0, 1)), 2)

    def test_deeds_that_are_not_included_do_not_count(self):
        text = Text(2)
        text.do_all(0, NOTE, NOTE, NOTE)
        text.hear(1, 0)
        last = text.do(1, NOTE)
        self.assertEqual(last[2], 4)
        self.assertEqual([clock_for(text.histories[1], (many, 0)) for many in range(4)], [1, 2, 3, 4])
        self.assertEqual(clock_for(text.histories[1], (3, 1)), 5)


class Active(unittest.TestCase):
    def test_an_even_number_of_toggles(self):
        for act in (PUT, ("cut", ((0, 0, 0),)), ("mark", (0, 0, 0), (0, 0, 1), "b")):
            text = Text(2)
            text.do(0, PUT)
            deed = text.do(0, act)
            for many in range(6):
                with self.subTest(act=act, many=many):
                    self.assertIs(is_active(text.histories[0], deed), many % 2 == 0)
                text.do(0, ("toggle", deed[1]))

    def test_toggles_of_another_hand_do_not_count(self):
        text = Text(3)
        mine = text.do(0, PUT)
        text.do_all(1, PUT, ("toggle", 0))
        text.do_all(2, PUT, ("toggle", 0), ("toggle", 0))
        text.hear_all()
        history = text.histories[0]
        self.assertIs(is_active(history, mine), True)
        theirs = [deed for deed in history if deed[4] == PUT]
        self.assertEqual({deed[0]: is_active(history, deed) for deed in theirs}, {0: True, 1: False, 2: True})

    def test_toggles_of_another_number_do_not_count(self):
        text = Text(2)
        one, two, three = text.do_all(0, PUT, PUT, PUT)
        text.do(0, ("toggle", 1))
        self.assertEqual([is_active(text.histories[0], deed) for deed in (one, two, three)], [True, False, True])
        text.do(0, ("toggle", 0))
        self.assertEqual([is_active(text.histories[0], deed) for deed in (one, two, three)], [False, False, True])
        text.do(0, ("toggle", 1))
        self.assertEqual([is_active(text.histories[0], deed) for deed in (one, two, three)], [False, True, True])

    def test_only_the_toggles_of_this_history(self):
        text = Text(2)
        put, _ = text.do_all(0, PUT, ("toggle", 0))
        self.assertIs(is_active(text.histories[0], put), False)
        self.assertIs(is_active(within(text.histories[0], (1, 0)), put), True)


class Final(unittest.TestCase):
    def test_writings_behind_it_are_counted_exactly(self):
        for bound, many in product(range(5), range(7)):
            text = Text(2, bound)
            put = text.do(0, PUT)
            text.do_all(0, *[PUT] * many)
            with self.subTest(bound=bound, many=many):
                self.assertIs(is_final(text.histories[0], bound, put), many >= bound)

    def test_every_kind_of_writing_counts(self):
        others = (PUT, ("cut", ((0, 0, 0),)), ("mark", (0, 0, 1), (0, 0, 2), "b"))
        for act, other in product(others, repeat=2):
            text = Text(2, 2)
            first = text.do(0, PUT)
            deed = text.do(0, act)
            states = []
            for _ in range(3):
                states.append([is_final(text.histories[0], 2, first), is_final(text.histories[0], 2, deed)])
                text.do(0, other)
            self.assertEqual(states, [[False, False], [True, False], [True, True]])

    def test_notes_and_toggles_do_not_count(self):
        text = Text(2, 1)
        put = text.do(0, PUT)
        text.do_all(0, NOTE, NOTE, ("toggle", 0), ("toggle", 0), ("toggle", 0), NOTE)
        self.assertIs(is_final(text.histories[0], 1, put), False)
        text.do(0, PUT)
        self.assertIs(is_final(text.histories[0], 1, put), True)

    def test_writings_that_are_taken_back_count(self):
        text = Text(2, 1)
        put = text.do(0, PUT)
        text.do_all(0, PUT, ("toggle", 1))
        self.assertIs(is_final(text.histories[0], 1, put), True)

    def test_writings_ahead_of_it_and_those_of_others_do_not_count(self):
        text = Text(2, 1)
        text.do_all(0, PUT, PUT)
        put = text.do(0, PUT)
        text.do_all(1, PUT, PUT, PUT, PUT, PUT)
        text.hear_all()
        for history in text.histories:
            self.assertIs(is_final(history, 1, put), False)

    def test_the_leave_of_its_hand(self):
        for bound in range(5):
            text = Text(2, bound)
            put = text.do(0, PUT)
            text.do(0, ("leave",))
            self.assertIs(is_final(text.histories[0], bound, put), True)
            self.assertIs(is_final(text.histories[0][:1], bound, put), bound == 0)

    def test_the_leave_of_another_hand_does_not_count(self):
        text = Text(2, 1)
        put = text.do(0, PUT)
        text.do(1, ("leave",))
        text.hear_all()
        self.assertIs(is_final(text.histories[0], 1, put), False)

    def test_only_what_is_in_this_history_counts(self):
        text = Text(2, 2)
        put = text.do(0, PUT)
        text.do_all(0, PUT, PUT)
        states = [is_final(within(text.histories[0], (many, 0)), 2, put) for many in (1, 2, 3)]
        self.assertEqual(states, [False, False, True])


class Leaving(unittest.TestCase):
    def test_only_the_hand_itself_has_left(self):
        text = Text(3)
        text.do_all(1, NOTE, ("leave",))
        text.hear_all()
        self.assertEqual([has_left(text.histories[0], hand) for hand in range(3)], [False, True, False])
        self.assertIs(has_left(text.histories[0][:1], 1), False)
        self.assertIs(has_left((), 0), False)


class Signs(unittest.TestCase):
    def states(self, text, hand, sign):
        history = text.histories[hand]
        return is_shown(history, sign), is_dead(history, text.bound, sign)

    def test_a_put_that_is_taken_back_and_done_again(self):
        text = Text(2, 1)
        sign = sign_of(text.do(0, PUT), 1)
        self.assertEqual(self.states(text, 0, sign), (True, False))
        text.do(0, ("toggle", 0))
        self.assertEqual(self.states(text, 0, sign), (False, False))
        text.do(0, ("toggle", 0))
        self.assertEqual(self.states(text, 0, sign), (True, False))
        text.do(0, PUT)
        self.assertEqual(self.states(text, 0, sign), (True, False))

    def test_a_put_that_is_taken_back_until_it_is_final(self):
        for last in (PUT, ("leave",)):
            text = Text(2, 1)
            sign = sign_of(text.do(0, PUT), 2)
            text.do(0, ("toggle", 0))
            self.assertEqual(self.states(text, 0, sign), (False, False))
            text.do(0, last)
            self.assertEqual(self.states(text, 0, sign), (False, True))

    def test_each_sign_of_the_run(self):
        text = Text(2, 1)
        put = text.do(0, PUT)
        text.do_all(0, ("toggle", 0), PUT)
        self.assertEqual([self.states(text, 0, sign_of(put, at)) for at in range(3)], [(False, True)] * 3)
        self.assertEqual([self.states(text, 0, (0, 2, at)) for at in range(3)], [(True, False)] * 3)

    def test_a_cut_that_is_taken_back_and_done_again(self):
        text = Text(2, 1)
        sign = sign_of(text.do(0, PUT), 0)
        text.hear(1, 0)
        text.do(1, ("cut", (sign,)))
        self.assertEqual(self.states(text, 1, sign), (False, False))
        text.do(1, ("toggle", 0))
        self.assertEqual(self.states(text, 1, sign), (True, False))
        text.do(1, PUT)
        self.assertEqual(self.states(text, 1, sign), (True, False))

    def test_a_cut_until_it_is_final(self):
        for last in (PUT, ("leave",)):
            text = Text(2, 1)
            put = text.do(0, PUT)
            text.hear(1, 0)
            text.do(1, ("cut", (sign_of(put, 0), sign_of(put, 2))))
            text.do_all(1, ("toggle", 0), ("toggle", 0))
            self.assertEqual([self.states(text, 1, sign_of(put, at))[1] for at in range(3)], [False] * 3)
            text.do(1, last)
            states = [self.states(text, 1, sign_of(put, at)) for at in range(3)]
            self.assertEqual(states, [(False, True), (True, False), (False, True)])

    def two_cuts(self, bound):
        text = Text(3, bound)
        sign = sign_of(text.do(0, PUT), 1)
        for hand in (1, 2):
            text.hear(hand, 0)
            text.do(hand, ("cut", (sign,)))
        text.hear_all()
        return text, sign

    def test_two_cuts_of_one_sign_before_they_are_final(self):
        text, sign = self.two_cuts(1)
        self.assertEqual(self.states(text, 0, sign), (False, False))
        text.do(1, ("toggle", 0))
        text.hear_all()
        self.assertEqual(self.states(text, 0, sign), (False, False))
        text.do(2, ("toggle", 0))
        text.hear_all()
        self.assertEqual(self.states(text, 0, sign), (True, False))

    def test_one_of_two_cuts_is_final(self):
        text, sign = self.two_cuts(1)
        text.do(2, PUT)
        text.do(1, ("toggle", 0))
        text.hear_all()
        self.assertEqual(self.states(text, 0, sign), (False, True))

    def test_one_of_two_cuts_is_final_but_taken_back(self):
        text, sign = self.two_cuts(1)
        text.do_all(2, ("toggle", 0), PUT)
        text.hear_all()
        self.assertEqual(self.states(text, 0, sign), (False, False))
        text.do_all(1, ("toggle", 0), PUT)
        text.hear_all()
        self.assertEqual(self.states(text, 0, sign), (True, False))

    def test_with_the_bound_zero_a_cut_kills_at_once(self):
        text, sign = self.two_cuts(0)
        self.assertEqual(self.states(text, 0, sign), (False, True))

    def test_a_cut_of_a_put_that_is_taken_back(self):
        text = Text(2, 2)
        sign = sign_of(text.do(0, PUT), 1)
        text.hear(1, 0)
        text.do(1, ("cut", (sign,)))
        text.do(0, ("toggle", 0))
        text.hear_all()
        self.assertEqual(self.states(text, 0, sign), (False, False))
        text.do(1, ("toggle", 0))
        text.hear_all()
        self.assertEqual(self.states(text, 0, sign), (False, False))
        text.do(0, ("toggle", 0))
        self.assertEqual(self.states(text, 0, sign), (True, False))
        self.assertEqual(self.states(text, 1, sign), (False, False))

    def test_a_mark_hides_nothing(self):
        text = Text(2, 0)
        put = text.do(0, PUT)
        text.do(0, ("mark", sign_of(put, 0), sign_of(put, 2), "b"))
        self.assertEqual(self.states(text, 0, sign_of(put, 1)), (True, False))

    def test_signs_that_are_not_there(self):
        text = Text(2, 0)
        put = text.do(0, PUT)
        text.do_all(0, ("cut", (sign_of(put, 0),)), NOTE)
        for sign in ((0, 0, 3), (0, 0, 99), (0, 0, -1), (0, 1, 0), (0, 2, 0), (0, 3, 0), (1, 0, 0), (7, 0, 0)):
            with self.subTest(sign):
                self.assertEqual(self.states(text, 0, sign), (False, False))
                self.assertIs(is_shown(text.histories[0], sign), False)
                self.assertIs(is_dead(text.histories[0], 0, sign), False)

    def test_a_sign_before_its_put_has_come(self):
        text = Text(2, 0)
        put = text.do(0, PUT)
        self.assertEqual(self.states(text, 1, sign_of(put, 0)), (False, False))
        self.assertEqual((is_shown((), (0, 0, 0)), is_dead((), 0, (0, 0, 0))), (False, False))


class AllStates(unittest.TestCase):
    """Point by point on many histories; and what is dead stays dead and is never shown."""

    def test_they_are_what_the_document_says(self):
        for text in random_texts(30, 40):
            for history in text.histories:
                self.check_writings(text.bound, history)
                for sign in plain_order(history):
                    self.assertIs(is_shown(history, sign), plain_shown_sign(history, sign))
                    self.assertIs(is_dead(history, text.bound, sign), plain_dead(history, text.bound, sign))

    def check_writings(self, bound, history):
        for deed in history:
            if deed[4][0] in ("put", "cut", "mark"):
                self.assertIs(is_active(history, deed), plain_active(history, deed))
                self.assertIs(is_final(history, bound, deed), plain_final(history, bound, deed))

    def test_dead_is_dead_in_every_greater_version_and_never_shown(self):
        for text in random_texts(20, 40):
            history = text.histories[0]
            for sign in plain_order(history):
                rows = [history[:many] for many in range(len(history) + 1)]
                dead = [is_dead(row, text.bound, sign) for row in rows]
                self.assertEqual(dead, sorted(dead))
                for row, gone in zip(rows, dead):
                    self.assertFalse(gone and is_shown(row, sign))


if __name__ == "__main__":
    unittest.main()
