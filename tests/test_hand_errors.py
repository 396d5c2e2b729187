"""textatrest.hands: what a hand refuses, in which order, and that this changes nothing."""

import copy
import unittest
from itertools import product

from handling import HandCase, hands_of, share
from making import run_signs, sign_of
from textatrest.errors import HasLeft, IsFinal, NotAllowed, OutOfRange
from textatrest.hands import Hand

NOTE = ("note",)
GOOD_TEXTS = ("x", "abcdefgh")
BAD_TEXTS = ("", "abcdefghi")
GOOD_VALUES = ("", "a", "abcd")
BAD_VALUES = ("abcde", "A", "a1", "a b", "-", "abc{", "`")


def hand_with_text():
    """Hand 1 of three shows twelve signs, has news of others, and a deed waits."""
    one, two, three = hands_of(3, 2)
    one.put(0, "abcdefgh")
    two.hear(one.history())
    two.put(8, "ijkl")
    three.note()
    two.hear([three.note()])
    two.cut(0, 1)
    two.put(0, "m")
    return two


def left_hand():
    hand = hand_with_text()
    hand.leave()
    return hand


class Puts(HandCase):
    def setUp(self):
        self.hand = hand_with_text()

    def test_at(self):
        for at in (-1, 13, 14, -13):
            for text in GOOD_TEXTS + BAD_TEXTS:
                self.check_refused(self.hand, OutOfRange, "at", "put", at, text)

    def test_text(self):
        for at in (0, 1, 11, 12):
            for text in BAD_TEXTS:
                self.check_refused(self.hand, OutOfRange, "text", "put", at, text)
            for text in GOOD_TEXTS:
                copy.deepcopy(self.hand).put(at, text)

    def test_of_nothing(self):
        self.check_refused(Hand(2, 0, 2), OutOfRange, "at", "put", 1, "x")
        self.check_refused(Hand(2, 0, 2), OutOfRange, "text", "put", 0, "")
        self.assertEqual(Hand(2, 0, 2).put(0, "x")[4], ("put", None, "x"))

    def test_one_that_has_left(self):
        for at, text in product((-1, 0, 12, 13), GOOD_TEXTS + BAD_TEXTS):
            self.check_refused(left_hand(), HasLeft, None, "put", at, text)


class Cuts(HandCase):
    def setUp(self):
        self.hand = hand_with_text()

    def test_many(self):
        for many, at in product((-1, 0, 9, 12, 13), (-1, 0, 3, 12, 13)):
            self.check_refused(self.hand, OutOfRange, "many", "cut", at, many)

    def test_at(self):
        for many in (1, 2, 8):
            for at in (-1, 12 - many + 1, 12, 13):
                self.check_refused(self.hand, OutOfRange, "at", "cut", at, many)
            for at in (0, 12 - many):
                copy.deepcopy(self.hand).cut(at, many)

    def test_more_than_there_are(self):
        hand = Hand(2, 0, 2)
        self.check_refused(hand, OutOfRange, "at", "cut", 0, 1)
        self.check_refused(hand, OutOfRange, "many", "cut", 0, 0)
        hand.put(0, "ab")
        for at in (-1, 0, 1, 2):
            self.check_refused(hand, OutOfRange, "at", "cut", at, 3)

    def test_one_that_has_left(self):
        for at, many in product((-1, 0, 12), (0, 1, 8, 9)):
            self.check_refused(left_hand(), HasLeft, None, "cut", at, many)


class Marks(HandCase):
    def setUp(self):
        self.hand = hand_with_text()

    def test_many(self):
        for many, at, value in product((-1, 0), (-1, 0, 12, 13), GOOD_VALUES + BAD_VALUES):
            self.check_refused(self.hand, OutOfRange, "many", "mark", at, many, value)

    def test_at(self):
        for many in (1, 2, 9, 12):
            for at, value in product((-1, 12 - many + 1, 13), ("", "abcd", "abcde", "A")):
                self.check_refused(self.hand, OutOfRange, "at", "mark", at, many, value)
            for at in (0, 12 - many):
                copy.deepcopy(self.hand).mark(at, many, "b")
        self.check_refused(self.hand, OutOfRange, "at", "mark", 0, 13, "b")

    def test_value(self):
        for at, many in ((0, 1), (0, 12), (11, 1)):
            for value in BAD_VALUES:
                self.check_refused(self.hand, OutOfRange, "value", "mark", at, many, value)
            for value in GOOD_VALUES:
                copy.deepcopy(self.hand).mark(at, many, value)

    def test_of_nothing(self):
        self.check_refused(Hand(2, 0, 2), OutOfRange, "at", "mark", 0, 1, "b")
        self.check_refused(Hand(2, 0, 2), OutOfRange, "many", "mark", 0, 0, "b")

    def test_one_that_has_left(self):
        for at, many, value in product((-1, 0, 12), (0, 1, 13), ("", "b", "abcde")):
            self.check_refused(left_hand(), HasLeft, None, "mark", at, many, value)


class Toggles(HandCase):
    def made(self, bound):
        """With a put 0, a note 1, a toggle 2, a cut 3, a mark 4, a put 5."""
        one, other = hands_of(2, bound)
        other.put(0, "xyz")
        for _ in range(8):
            other.put(0, "x")
        one.hear(other.history())
        one.put(0, "abc")
        one.note()
        # With the bound 0 nothing can be taken back, so that another note stands there.
        if bound > 0:
            one.toggle(0)
        else:
            one.note()
        one.cut(0, 1)
        one.mark(0, 1, "b")
        one.put(0, "d")
        return one

    def test_numbers_of_no_writing_of_its_own(self):
        for bound in range(5):
            for number in (-1, -2, 1, 2, 6, 7, 100):
                self.check_refused(self.made(bound), OutOfRange, "number", "toggle", number)

    def test_the_next_deed_is_not_done_yet(self):
        self.check_refused(Hand(2, 0, 2), OutOfRange, "number", "toggle", 0)

    def test_writings_that_are_final(self):
        for bound in range(5):
            writings = (0, 3, 4, 5)
            final = writings[:max(0, 4 - bound)]
            for number in writings:
                if number in final:
                    self.check_refused(self.made(bound), IsFinal, None, "toggle", number)
                else:
                    self.check_done(self.made(bound), ("toggle", number), "toggle", number)

    def test_one_that_has_left(self):
        for bound in (0, 4):
            hand = self.made(bound)
            hand.leave()
            for number in (-1, 0, 1, 2, 3, 5, 6, 7):
                self.check_refused(hand, HasLeft, None, "toggle", number)


class NotesAndLeaves(HandCase):
    def test_one_that_has_left(self):
        for method in ("note", "leave"):
            self.check_refused(left_hand(), HasLeft, None, method)


class Does(HandCase):
    def setUp(self):
        self.hand = hand_with_text()
        self.out_of_range = (
            ("put", None, ""), ("put", None, "abcdefghi"), ("put", (0, 0, 0), ""), ("put", (-1, 0, 0), "x"),
            ("put", (0, -1, 0), "x"), ("put", (0, 0, -1), "x"), ("put", (9, 9, 9), ""),
            ("cut", ()), ("cut", tuple([(0, 0, index) for index in range(9)])), ("cut", ((0, 0, 2), (0, 0, 1))),
            ("cut", ((0, 0, 1), (0, 0, 1))), ("cut", ((0, 0, -1),)), ("cut", ((-1, 0, 0), (0, 0, 0))),
            ("mark", (0, 0, 0), (0, 0, 1), "abcde"), ("mark", (0, 0, 0), (0, 0, 1), "A"),
            ("mark", (0, 0, 0), (0, 0, 1), "b "), ("mark", (0, 0, -1), (0, 0, 1), "b"),
            ("mark", (0, 0, 0), (0, -1, 1), "b"), ("mark", (0, 0, 1), (0, 0, 0), "abcde"),
            ("toggle", -1),
        )

    def test_act(self):
        for act in self.out_of_range:
            self.check_refused(self.hand, OutOfRange, "act", "do", act)

    def test_one_that_has_left(self):
        allowed = (NOTE, ("leave",), ("put", None, "x"), ("toggle", 0), ("cut", ((0, 0, 1),)))
        for act in self.out_of_range + allowed + (("put", (9, 9, 9), "x"), ("toggle", 77)):
            self.check_refused(left_hand(), HasLeft, None, "do", act)

    def check_not_allowed(self, hand, *acts):
        for act in acts:
            self.check_refused(hand, NotAllowed, None, "do", act)

    def acts_with(self, sign, good):
        return (
            ("put", sign, "x"), ("cut", (sign,)), ("cut", tuple(sorted([sign, good]))),
            ("mark", sign, good, "b"), ("mark", good, sign, "b"), ("mark", sign, sign, ""),
        )

    def test_signs_without_a_put(self):
        for sign in ((0, 0, 8), (0, 1, 0), (2, 0, 0), (2, 1, 0), (1, 1, 0), (1, 0, 4), (3, 0, 0), (9, 9, 9)):
            self.check_not_allowed(self.hand, *self.acts_with(sign, (0, 0, 3)))

    def test_signs_of_a_put_that_waits(self):
        one, other = hands_of(2)
        other.note()
        put = other.put(0, "abc")
        one.hear([put])
        good = sign_of(one.put(0, "x"), 0)
        self.check_not_allowed(one, *self.acts_with(sign_of(put, 0), good))
        one.hear(other.history())
        for act in self.acts_with(sign_of(put, 0), good)[:3]:
            self.check_done_by_a_copy(one, act, "do", act)

    def test_signs_that_are_dead(self):
        hand = Hand(2, 0, 1)
        signs = run_signs(hand.put(0, "abc"))
        hand.cut(1, 1)
        hand.put(0, "x")
        self.check_not_allowed(hand, *self.acts_with(signs[1], signs[0]))
        taken_back = Hand(2, 0, 1)
        lost = run_signs(taken_back.put(0, "abc"))
        taken_back.toggle(0)
        good = sign_of(taken_back.put(0, "x"), 0)
        self.check_not_allowed(taken_back, *self.acts_with(lost[1], good))

    def test_marks_whose_first_sign_comes_after_the_last_one(self):
        first, second = (0, 0, 3), (0, 0, 4)
        self.check_not_allowed(self.hand, ("mark", second, first, "b"))
        # What was written later at the beginning comes first, though its sign is greater.
        early, late = self.hand.shown()[0][0], self.hand.shown()[-1][0]
        self.check_not_allowed(self.hand, ("mark", late, early, ""), ("mark", late, first, "b"))
        self.check_done_by_a_copy(self.hand, ("mark", first, second, "b"), "do", ("mark", first, second, "b"))
        self.check_done_by_a_copy(self.hand, ("mark", early, late, "b"), "do", ("mark", early, late, "b"))

    def test_toggles(self):
        one, other = hands_of(2, 1)
        one.put(0, "abc")
        one.note()
        one.toggle(0)
        one.put(0, "d")
        other.hear(one.history())
        # Not of a note, a toggle, a final writing, or one that is not done yet.
        self.check_not_allowed(one, *[("toggle", number) for number in (0, 1, 2, 4, 5, 99)])
        # Not of another one's writing.
        self.check_not_allowed(other, ("toggle", 0), ("toggle", 3))
        self.check_done(one, ("toggle", 3), "do", ("toggle", 3))

    def test_out_of_range_is_told_ahead_of_not_allowed(self):
        absent = (2, 7, 0)
        for act in (
            ("put", absent, ""), ("put", absent, "abcdefghi"), ("cut", (absent, absent)),
            ("mark", absent, absent, "abcde"), ("mark", absent, (0, 0, -1), "b"), ("toggle", -1),
        ):
            self.check_refused(self.hand, OutOfRange, "act", "do", act)


class Left(HandCase):
    def test_it_does_nothing_but_hears(self):
        one, other, third = hands_of(3)
        put = one.put(0, "abc")
        one.leave()
        other.hear(one.history())
        deed = other.put(3, "def")
        third.note()
        late = third.put(0, "x")
        self.check_refused(one, HasLeft, None, "note")
        self.assertEqual(one.hear([deed]), [deed])
        self.assertEqual(one.text(), "abcdef")
        self.assertEqual(one.hear([late]), [])
        self.assertEqual(one.waiting(), [late])
        self.assertEqual(one.version(), (2, 1, 0))
        self.check_refused(one, HasLeft, None, "put", 0, "x")
        share([one, other, third])
        self.assertEqual(one.text(), other.text())
        self.assertEqual(one.kept()[0], sign_of(late, 0))
        self.assertIn(sign_of(put, 0), one.kept())


class Refused(HandCase):
    def test_the_next_deed_is_as_if_nothing_was_asked(self):
        asked, unasked = hand_with_text(), hand_with_text()
        for method, arguments in (
            ("put", (-1, "x")), ("put", (0, "")), ("cut", (0, 0)), ("cut", (12, 1)), ("mark", (0, 0, "b")),
            ("mark", (0, 1, "B")), ("toggle", (9,)), ("do", (("cut", ()),)), ("do", (("toggle", 9),)),
            ("news", (1,)),
        ):
            with self.assertRaises((OutOfRange, NotAllowed)):
                getattr(asked, method)(*arguments)
        self.assertEqual(asked.put(3, "new"), unasked.put(3, "new"))
        self.assertEqual(asked.history(), unasked.history())


if __name__ == "__main__":
    unittest.main()
