"""textatrest.histories: is_allowed (point 7 of the document)."""

import random
import unittest

from making import Text, plain_allowed, plain_order, plain_version, random_texts, sign_of
from textatrest.histories import is_allowed


def next_deed(hands, history, hand, act):
    seen = plain_version(hands, history)
    return (hand, seen[hand], 1 + max([deed[2] for deed in history], default=0), seen, act)


class Allowed(unittest.TestCase):
    def setUp(self):
        self.made = Text(2, 1)
        self.first = self.made.do(0, ("put", None, "abc"))
        self.signs = [sign_of(self.first, index) for index in range(3)]

    def check(self, hand, act, expected):
        history = self.made.histories[hand]
        deed = next_deed(2, history, hand, act)
        with self.subTest(hand=hand, act=act):
            self.assertIs(is_allowed(history, 2, self.made.bound, deed), expected)

    def acts_with(self, sign):
        """Every kind of act that refers to this sign, and to the first one where it has another."""
        return (
            ("put", sign, "x"),
            ("cut", (sign,)),
            ("cut", tuple(sorted([self.signs[0], sign]))),
            ("mark", sign, sign, "b"),
            ("mark", self.signs[0], sign, "b"),
        )

    def test_ordinary_deeds(self):
        for act in (("put", None, "x"), ("note",), ("leave",), ("toggle", 0)):
            self.check(0, act, True)
        for sign in self.signs[1:]:
            for act in self.acts_with(sign):
                self.check(0, act, True)

    def test_the_first_deed_of_all(self):
        self.made = Text(2, 0)
        for act in (("put", None, "x"), ("note",), ("leave",)):
            self.check(1, act, True)
        for act in (*self.acts_with((0, 0, 0)), ("toggle", 0)):
            self.check(1, act, False)

    def test_a_hand_that_has_left(self):
        self.made.do(0, ("leave",))
        acts = (("put", None, "x"), ("put", self.signs[0], "x"), ("note",), ("leave",), ("toggle", 0))
        for act in acts:
            self.check(0, act, False)
        self.made.hear(1, 0)
        self.check(1, ("note",), True)
        self.check(1, ("put", self.signs[0], "x"), True)

    def test_whether_it_has_left_is_asked_of_what_is_seen(self):
        before = next_deed(2, self.made.histories[0], 0, ("note",))
        self.made.do(0, ("leave",))
        self.assertIs(is_allowed(self.made.histories[0], 2, 1, before), True)

    def test_signs_that_are_not_there(self):
        self.made.do_all(0, ("note",), ("cut", (self.signs[2],)))
        for sign in ((0, 1, 0), (0, 2, 0), (0, 3, 0), (0, 9, 0), (1, 0, 0), (3, 0, 0)):
            for act in self.acts_with(sign):
                self.check(0, act, False)
        self.check(0, ("mark", (0, 3, 0), self.signs[0], "b"), False)

    def test_an_index_at_and_beyond_the_length_of_the_run(self):
        for index, expected in ((2, True), (3, False), (4, False), (8, False), (-1, False)):
            for act in self.acts_with((0, 0, index)):
                self.check(0, act, expected)

    def test_a_sign_whose_put_is_not_seen(self):
        for act in self.acts_with(self.signs[1]):
            self.check(1, act, False)
        self.made.hear(1, 0)
        for act in self.acts_with(self.signs[1]):
            self.check(1, act, True)
            deed = (1, 0, 1, (0, 0), act)
            self.assertIs(is_allowed(self.made.histories[1], 2, 1, deed), False)

    def test_a_dead_sign(self):
        self.made.do(0, ("cut", (self.signs[1],)))
        for act in self.acts_with(self.signs[1]):
            self.check(0, act, True)
        self.made.do(0, ("put", None, "x"))
        for act in self.acts_with(self.signs[1]):
            self.check(0, act, False)
        self.check(0, ("mark", self.signs[1], self.signs[2], "b"), False)
        self.check(0, ("cut", (self.signs[0], self.signs[1], self.signs[2])), False)
        self.check(0, ("cut", (self.signs[0], self.signs[2])), True)
        self.check(0, ("mark", self.signs[0], self.signs[2], "b"), True)

    def test_a_sign_of_a_put_that_is_taken_back(self):
        self.made.do(0, ("toggle", 0))
        for act in self.acts_with(self.signs[1]):
            self.check(0, act, True)
        self.made.do(0, ("put", None, "x"))
        for act in self.acts_with(self.signs[1]):
            self.check(0, act, False)

    def test_whether_it_is_dead_is_asked_of_what_is_seen(self):
        self.made.hear(1, 0)
        early = next_deed(2, self.made.histories[1], 1, ("put", self.signs[1], "x"))
        self.made.do_all(0, ("cut", (self.signs[1],)), ("put", None, "y"))
        self.made.hear(1, 0)
        self.assertIs(is_allowed(self.made.histories[1], 2, 1, early), True)
        self.check(1, ("put", self.signs[1], "x"), False)

    def test_the_bound_tells_what_is_dead(self):
        self.made.do(0, ("cut", (self.signs[1],)))
        deed = next_deed(2, self.made.histories[0], 0, ("put", self.signs[1], "x"))
        states = [is_allowed(self.made.histories[0], 2, bound, deed) for bound in range(5)]
        self.assertEqual(states, [False, True, True, True, True])

    def test_first_and_last(self):
        low, middle, high = self.signs
        for first, last, expected in (
            (low, low, True), (low, middle, True), (low, high, True), (middle, high, True),
            (high, high, True), (middle, low, False), (high, low, False), (high, middle, False),
        ):
            self.check(0, ("mark", first, last, "b"), expected)
            self.check(0, ("mark", first, last, ""), expected)

    def test_first_and_last_stand_in_the_order_of_paths_not_of_tuples(self):
        second = self.made.do(0, ("put", None, "xy"))
        third = self.made.do(0, ("put", self.signs[0], "!"))
        self.check(0, ("mark", sign_of(second, 1), self.signs[0], "b"), True)
        self.check(0, ("mark", self.signs[0], sign_of(second, 1), "b"), False)
        self.check(0, ("mark", sign_of(third, 0), self.signs[1], "b"), True)
        self.check(0, ("mark", self.signs[1], sign_of(third, 0), "b"), False)
        self.check(0, ("mark", self.signs[0], sign_of(third, 0), "b"), True)

    def test_first_and_last_that_are_not_shown(self):
        self.made = Text(2, 2)
        self.made.do(0, ("put", None, "abc"))
        self.made.do(0, ("cut", (self.signs[0], self.signs[2])))
        self.check(0, ("mark", self.signs[0], self.signs[2], "b"), True)
        self.check(0, ("mark", self.signs[2], self.signs[0], "b"), False)

    def test_a_toggle_of_each_writing(self):
        self.made = Text(2, 4)
        self.made.do(0, ("put", None, "abc"))
        self.made.do(0, ("cut", (self.signs[0],)))
        self.made.do(0, ("mark", self.signs[1], self.signs[2], "b"))
        self.made.do_all(0, ("toggle", 1), ("note",))
        for number, expected in ((0, True), (1, True), (2, True), (3, False), (4, False), (5, False)):
            self.check(0, ("toggle", number), expected)
        for number in (6, 99, -1):
            self.check(0, ("toggle", number), False)

    def test_a_toggle_of_another_hands_number(self):
        self.made.do(1, ("note",))
        self.made.do(1, ("note",))
        self.made.do(0, ("note",))
        self.made.do(0, ("put", None, "x"))
        self.made.hear_all()
        self.check(0, ("toggle", 2), True)
        for number in range(4):
            self.check(1, ("toggle", number), False)

    def test_a_toggle_of_what_is_final(self):
        for bound in range(5):
            self.made = Text(2, bound)
            self.made.do(0, ("put", None, "a"))
            for many in range(6):
                self.check(0, ("toggle", 0), many < bound)
                self.made.do_all(0, ("note",), ("put", None, "a"))

    def test_a_toggle_as_often_as_one_likes(self):
        for _ in range(8):
            self.check(0, ("toggle", 0), True)
            self.made.do(0, ("toggle", 0))

    def test_whether_it_is_final_is_asked_of_what_is_seen(self):
        early = next_deed(2, self.made.histories[0], 0, ("toggle", 0))
        self.made.do(0, ("put", None, "x"))
        self.assertIs(is_allowed(self.made.histories[0], 2, 1, early), True)
        self.check(0, ("toggle", 0), False)

    def test_a_toggle_of_what_is_not_seen(self):
        deed = (0, 0, 1, (0, 0), ("toggle", 0))
        self.assertIs(is_allowed(self.made.histories[0], 2, 1, deed), False)


class AllDeeds(unittest.TestCase):
    def acts(self, source, history):
        order = plain_order(history) + [(0, 0, 9), (1, 0, 0), (0, 1, 0), (3, 3, 3)]
        for _ in range(25):
            one, other = source.choice(order), source.choice(order)
            yield ("put", one, "x")
            yield ("cut", (one, other))
            yield ("mark", one, other, "b")
            yield ("toggle", source.randrange(12))
        yield from (("put", None, "x"), ("note",), ("leave",))

    def test_they_are_what_the_document_says(self):
        source, answers = random.Random(11), []
        for made in random_texts(30, 40):
            history = made.histories[0]
            whole = plain_version(made.hands, history)
            for act in self.acts(source, history):
                hand = source.randrange(made.hands)
                seen = whole
                if source.random() < 0.5 and history:
                    seen = source.choice(history)[3]
                deed = (hand, seen[hand], 99, seen, act)
                expected = plain_allowed(history, made.bound, deed)
                answers.append(expected)
                self.assertIs(is_allowed(history, made.hands, made.bound, deed), expected)
        self.assertGreater(min(answers.count(True), answers.count(False)), 200)

    def test_the_arguments_stay_as_they_were(self):
        for made in random_texts(6, 30):
            history = made.histories[0]
            before = repr(history)
            for act in self.acts(random.Random(3), history):
                deed = next_deed(made.hands, history, 0, act)
                written = repr(deed)
                is_allowed(history, made.hands, made.bound, deed)
                self.assertEqual((repr(history), repr(deed)), (before, written))


if __name__ == "__main__":
    unittest.main()
