"""textatrest.throwing: acknowledged, is_gone and kept (points 17, 18, 21 and 33)."""

import random
import unittest

from making import (
    Text, plain_acknowledged, plain_dead, plain_gone, plain_left, plain_order, plain_signs_of,
    random_step, random_texts, run_signs, sign_of,
)
from textatrest.throwing import acknowledged, is_gone, kept

NOTE = ("note",)


def gone(made, hand, sign):
    return is_gone(made.hands, made.bound, made.histories[hand], hand, sign)


def kept_by(made, hand):
    return kept(made.hands, made.bound, made.histories[hand], hand)


class Acknowledged(unittest.TestCase):
    def of(self, made, own, hand):
        return acknowledged(made.hands, made.histories[own], own, hand)

    def test_nothing_is_heard(self):
        for hands in (2, 3, 4):
            made = Text(hands)
            for own in range(hands):
                for hand in range(hands):
                    self.assertEqual(self.of(made, own, hand), (0,) * hands)

    def test_of_itself_it_is_its_own_version(self):
        made = Text(3)
        made.do_all(0, NOTE, NOTE)
        self.assertEqual(self.of(made, 0, 0), (2, 0, 0))
        made.do_all(1, NOTE)
        made.hear(0, 1)
        self.assertEqual(self.of(made, 0, 0), (2, 1, 0))
        made.hear(2, 0)
        self.assertEqual(self.of(made, 2, 2), (2, 1, 0))

    def test_of_another_one_it_is_what_its_last_deed_has_seen_and_this_deed(self):
        made = Text(3)
        made.do_all(0, NOTE, NOTE)
        made.hear(1, 0)
        made.do(1, NOTE)
        made.do_all(0, NOTE)
        made.hear(1, 0)
        made.hear(0, 1)
        self.assertEqual(self.of(made, 0, 1), (2, 1, 0))
        made.do(1, NOTE)
        self.assertEqual(self.of(made, 0, 1), (2, 1, 0))
        made.hear(0, 1)
        self.assertEqual(self.of(made, 0, 1), (3, 2, 0))

    def test_of_another_one_without_deeds(self):
        made = Text(3)
        made.do_all(0, NOTE, NOTE)
        made.hear_all()
        for own in range(3):
            for hand in {1, 2} - {own}:
                self.assertEqual(self.of(made, own, hand), (0, 0, 0))

    def test_of_a_hand_that_has_left(self):
        made = Text(2)
        made.do(0, NOTE)
        made.hear(1, 0)
        made.do(1, ("leave",))
        made.hear_all()
        self.assertEqual(self.of(made, 0, 1), (1, 1))
        self.assertEqual(self.of(made, 1, 1), (1, 1))

    def test_what_others_know_of_a_hand_does_not_count(self):
        made = Text(3)
        made.do(0, NOTE)
        made.hear(1, 0)
        made.do(1, NOTE)
        made.hear(2, 1)
        made.do(2, NOTE)
        self.assertEqual(self.of(made, 2, 0), (1, 0, 0))
        self.assertEqual(self.of(made, 2, 1), (1, 1, 0))
        self.assertEqual(self.of(made, 2, 2), (1, 1, 1))

    def test_it_is_what_the_document_says(self):
        for made in random_texts(30, 40):
            for own, history in enumerate(made.histories):
                for hand in range(made.hands):
                    expected = plain_acknowledged(made.hands, history, own, hand)
                    found = acknowledged(made.hands, history, own, hand)
                    self.assertEqual(found, expected)
                    self.assertIsInstance(found, tuple)


class Gone(unittest.TestCase):
    def cut_text(self, hands):
        """With the bound 0: hand 0 wrote abc, all heard it, and hand 1 deleted the b."""
        made = Text(hands, 0)
        put = made.do(0, ("put", None, "abc"))
        made.hear_all()
        made.do(1, ("cut", (sign_of(put, 1),)))
        return made, sign_of(put, 1)

    def test_dead_here_and_acknowledged_by_nobody_else(self):
        for hands in (2, 3, 4):
            made, sign = self.cut_text(hands)
            self.assertIs(gone(made, 1, sign), False)
            self.assertIn(sign, kept_by(made, 1))

    def test_what_is_heard_but_not_told_is_not_acknowledged(self):
        made, sign = self.cut_text(3)
        made.hear_all()
        self.assertEqual([gone(made, hand, sign) for hand in range(3)], [False] * 3)

    def test_acknowledged_by_one_after_the_other(self):
        made, sign = self.cut_text(4)
        made.hear_all()
        states = []
        for hand in (0, 2, 3):
            made.do(hand, NOTE)
            made.hear_all()
            states.append([gone(made, own, sign) for own in range(4)])
        # Hand 3 knows of itself what it has heard, before it tells the others.
        self.assertEqual(states, [[False] * 4, [False, False, False, True], [True] * 4])

    def test_kept_are_all_the_others_in_their_order(self):
        made, sign = self.cut_text(3)
        inner = made.do(2, ("put", sign, "xy"))
        made.hear_all()
        order = [(0, 0, 0), sign, *run_signs(inner), (0, 0, 2)]
        self.assertEqual([kept_by(made, hand) for hand in range(3)], [order] * 3)
        made.settle()
        order.remove(sign)
        self.assertEqual([kept_by(made, hand) for hand in range(3)], [order] * 3)

    def test_nothing_is_kept_of_nothing(self):
        self.assertEqual([kept_by(Text(hands), 0) for hands in (2, 3, 4)], [[]] * 3)

    def test_acknowledged_by_all_but_a_hand_that_has_left(self):
        made, sign = self.cut_text(3)
        made.do(2, ("leave",))
        made.hear(0, 1)
        made.do(0, NOTE)
        made.hear(1, 0)
        self.assertIs(gone(made, 1, sign), False)
        made.hear(1, 2)
        self.assertIs(gone(made, 1, sign), True)
        self.assertIs(gone(made, 0, sign), False)
        made.hear(0, 2)
        self.assertIs(gone(made, 0, sign), True)
        self.assertNotIn(sign, kept_by(made, 0))

    def test_the_hand_that_has_left_itself(self):
        made, sign = self.cut_text(2)
        made.do(0, ("leave",))
        self.assertIs(gone(made, 0, sign), False)
        made.hear_all()
        self.assertEqual([gone(made, hand, sign) for hand in range(2)], [True, True])

    def test_dead_in_its_own_version_is_asked_also_if_all_have_left(self):
        made = Text(2, 1)
        put = made.do(0, ("put", None, "ab"))
        made.hear_all()
        made.do_all(1, ("cut", (sign_of(put, 0),)), ("leave",))
        made.do(0, ("leave",))
        self.assertEqual([gone(made, 0, sign_of(put, 0)), gone(made, 1, sign_of(put, 0))], [False, False])
        made.hear_all()
        for hand in range(2):
            self.assertEqual([gone(made, hand, sign) for sign in run_signs(put)], [True, False])
            self.assertEqual(kept_by(made, hand), [sign_of(put, 1)])

    def test_hidden_but_not_dead_is_kept(self):
        made = Text(2, 1)
        put = made.do(0, ("put", None, "ab"))
        made.do_all(0, ("cut", (sign_of(put, 0),)))
        made.settle()
        made.settle()
        self.assertEqual(kept_by(made, 0), run_signs(put))
        last = made.do(0, ("put", None, "c"))
        made.settle()
        self.assertEqual(kept_by(made, 0), [sign_of(last, 0), sign_of(put, 1)])

    def test_a_put_that_is_taken_back_until_it_is_final(self):
        made = Text(2, 1)
        put = made.do(0, ("put", None, "ab"))
        made.do(0, ("toggle", 0))
        made.settle()
        self.assertEqual([gone(made, 1, sign) for sign in run_signs(put)], [False, False])
        made.do(0, ("put", None, "c"))
        made.settle()
        self.assertEqual([gone(made, 1, sign) for sign in run_signs(put)], [True, True])
        self.assertEqual(len(kept_by(made, 1)), 1)

    def test_signs_without_a_put_are_not_gone(self):
        made, sign = self.cut_text(2)
        made.settle()
        self.assertIs(gone(made, 0, sign), True)
        for other in ((0, 0, 3), (0, 0, -1), (0, 1, 0), (1, 0, 0), (0, 9, 0), (5, 0, 0)):
            self.assertIs(gone(made, 0, other), False)
        self.assertIs(is_gone(2, 0, (), 0, sign), False)

    def test_the_list_is_new_and_the_history_stays_as_it_was(self):
        for made in random_texts(6, 30):
            before = repr(made.histories)
            found = kept_by(made, 0)
            self.assertIsInstance(found, list)
            expected = list(found)
            found.append("changed by the caller")
            self.assertEqual(kept_by(made, 0), expected)
            for sign in expected:
                gone(made, 0, sign)
            for hand in range(made.hands):
                acknowledged(made.hands, made.histories[0], 0, hand)
            self.assertEqual(repr(made.histories), before)


class All(unittest.TestCase):
    def test_they_are_what_the_document_says(self):
        answers = []
        for made in random_texts(40, 60):
            for hand, history in enumerate(made.histories):
                order = plain_order(history)
                expected = [plain_gone(made.hands, made.bound, history, hand, sign) for sign in order]
                self.assertEqual([gone(made, hand, sign) for sign in order], expected)
                self.assertEqual(kept_by(made, hand), [s for s, lost in zip(order, expected) if not lost])
                answers += expected
        self.assertGreater(min(answers.count(True), answers.count(False)), 100)

    def test_when_all_have_heard_all_notes_exactly_the_dead_are_gone_everywhere(self):
        dead = 0
        for made in random_texts(40, 40):
            made.settle()
            order = plain_order(made.histories[0])
            living = [sign for sign in order if not plain_dead(made.histories[0], made.bound, sign)]
            dead += len(order) - len(living)
            for hand in range(made.hands):
                self.assertEqual(kept_by(made, hand), living)
        self.assertGreater(dead, 100)

    def test_gone_is_gone_for_ever_and_no_deed_that_comes_refers_to_it(self):
        lost = 0
        for seed in range(25):
            source = random.Random(1000 + seed)
            made = Text(2 + seed % 3, seed % 2)
            rows = [{} for _ in range(made.hands)]
            for _ in range(70):
                before = list(made.histories)
                random_step(source, made)
                for hand in range(made.hands):
                    if len(made.histories[hand]) > len(before[hand]):
                        self.check_new(made, hand, len(before[hand]), rows[hand])
            lost += sum([len(row) for row in rows])
        self.assertGreater(lost, 100)

    def check_new(self, made, hand, many, row):
        """Deeds beyond the first so many are new; row has the signs that were gone ahead of them."""
        history = made.histories[hand]
        for deed in history[many:]:
            self.assertFalse([sign for sign in plain_signs_of(deed[4]) if sign in row])
        for sign in plain_order(history):
            if gone(made, hand, sign):
                row[sign] = True
            else:
                self.assertNotIn(sign, row)

    def test_the_random_texts_have_hands_that_left_and_hands_that_stayed(self):
        left = [plain_left(made.histories[0], hand) for made in random_texts(40, 60) for hand in range(made.hands)]
        self.assertGreater(left.count(True), 5)
        self.assertGreater(left.count(False), 50)


if __name__ == "__main__":
    unittest.main()
