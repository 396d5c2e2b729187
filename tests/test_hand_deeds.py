"""textatrest.hands: what a hand does (points 3 to 7 of the document)."""

import random
import unittest

from handling import HandCase, hands_of, next_deed_of, share
from making import WRITINGS, plain_final, random_act, run_signs, sign_of
from textatrest.errors import OutOfRange
from textatrest.hands import Hand

NOTE = ("note",)


class Making(unittest.TestCase):
    def check_refused(self, name, *arguments):
        with self.subTest(arguments=arguments):
            with self.assertRaises(OutOfRange) as told:
                Hand(*arguments)
            self.assertEqual(told.exception.name, name)

    def test_all_hands_and_bounds_that_there_are(self):
        for hands in (2, 3, 4):
            for number in range(hands):
                for bound in range(5):
                    hand = Hand(hands, number, bound)
                    self.assertEqual(hand.number(), number)
                    self.assertEqual(hand.version(), (0,) * hands)
                    self.assertEqual((hand.history(), hand.waiting(), hand.shown(), hand.kept()), ((), [], [], []))
                    self.assertEqual(hand.text(), "")
                    self.assertIs(hand.has_left(), False)

    def test_arguments_by_name(self):
        self.assertEqual(Hand(hands=3, number=2, bound=0).version(), (0, 0, 0))

    def test_hands(self):
        for hands in (-1, 0, 1, 5):
            self.check_refused("hands", hands, 0, 2)

    def test_number(self):
        for hands in (2, 3, 4):
            for number in (-1, hands, hands + 1):
                self.check_refused("number", hands, number, 2)

    def test_bound(self):
        for bound in (-1, 5):
            self.check_refused("bound", 2, 0, bound)

    def test_the_first_one_that_applies(self):
        for hands in (1, 5):
            self.check_refused("hands", hands, -1, 2)
            self.check_refused("hands", hands, 5, 2)
            self.check_refused("hands", hands, 0, 5)
            self.check_refused("hands", hands, -1, -1)
        for number in (-1, 3):
            self.check_refused("number", 3, number, -1)
            self.check_refused("number", 3, number, 5)


class Deeds(HandCase):
    def test_each_kind_of_the_first_deeds(self):
        for hands in (2, 3, 4):
            for number in range(hands):
                hand, zeros = Hand(hands, number, 2), [0] * hands

                def seen(many):
                    return tuple(zeros[:number] + [many] + zeros[number + 1:])

                signs = [(number, 0, index) for index in range(3)]
                self.assertEqual(hand.put(0, "abc"), (number, 0, 1, seen(0), ("put", None, "abc")))
                self.assertEqual(hand.cut(1, 1), (number, 1, 2, seen(1), ("cut", (signs[1],))))
                self.assertEqual(
                    hand.mark(0, 2, "b"), (number, 2, 3, seen(2), ("mark", signs[0], signs[2], "b")),
                )
                self.assertEqual(hand.toggle(1), (number, 3, 4, seen(3), ("toggle", 1)))
                self.assertEqual(hand.note(), (number, 4, 5, seen(4), NOTE))
                self.assertEqual(hand.do(NOTE), (number, 5, 6, seen(5), NOTE))
                self.assertEqual(hand.leave(), (number, 6, 7, seen(6), ("leave",)))
                self.assertEqual(hand.version(), seen(7))
                self.assertEqual(hand.text(), "abc")

    def test_behind_news_of_others(self):
        for hands in (2, 3, 4):
            made = hands_of(hands)
            put = made[0].put(0, "abc")
            made[0].note()
            last = made[hands - 1]
            self.assertEqual(last.note(), (hands - 1, 0, 1, (0,) * hands, NOTE))
            last.hear(made[0].news(hands - 1))
            zeros = (0,) * (hands - 2)
            self.assertEqual(
                last.put(3, "d"),
                (hands - 1, 1, 3, (2, *zeros, 1), ("put", sign_of(put, 2), "d")),
            )
            made[0].hear(last.history())
            self.assertEqual(made[0].cut(0, 1), (0, 2, 4, (2, *zeros, 2), ("cut", (sign_of(put, 0),))))
            self.assertEqual(made[0].leave(), (0, 3, 5, (3, *zeros, 2), ("leave",)))

    def test_the_clock_is_one_more_than_the_greatest_not_the_last(self):
        one, other = hands_of(2)
        for _ in range(5):
            one.note()
        other.note()
        one.hear(other.history())
        self.assertEqual(one.history()[-1][2], 1)
        self.assertEqual(one.note(), (0, 5, 6, (5, 1), NOTE))

    def test_what_waits_is_not_seen(self):
        one, other = hands_of(2)
        one.note()
        other.hear([one.note()])
        self.assertEqual(len(other.waiting()), 1)
        self.assertEqual(other.note(), (1, 0, 1, (0, 0), NOTE))

    def test_puts_at_each_place(self):
        hand = Hand(2, 1, 2)
        put = self.check_done(hand, ("put", None, "abcdefgh"), "put", 0, "abcdefgh")
        signs = run_signs(put)
        self.check_done_by_a_copy(hand, ("put", None, "x"), "put", 0, "x")
        for at in range(1, 9):
            self.check_done_by_a_copy(hand, ("put", signs[at - 1], " :\\7"), "put", at, " :\\7")
        self.check_done(hand, ("cut", (signs[2], signs[3])), "cut", 2, 2)
        self.check_done_by_a_copy(hand, ("put", signs[1], "y"), "put", 2, "y")
        self.check_done_by_a_copy(hand, ("put", signs[4], "y"), "put", 3, "y")
        self.check_done(hand, ("put", signs[7], "z"), "put", 6, "z")
        self.assertEqual(hand.text(), "abefghz")

    def test_puts_of_each_length(self):
        for many in range(1, 9):
            hand = Hand(2, 0, 2)
            self.check_done(hand, ("put", None, "x" * many), "put", 0, "x" * many)
            self.assertEqual(hand.text(), "x" * many)

    def test_the_run_begins_where_it_was_asked_to(self):
        source = random.Random(7)
        hands = hands_of(3, 4)
        for _ in range(60):
            hand = source.choice(hands)
            at, before = source.randint(0, len(hand.text())), hand.text()
            hand.put(at, "abc")
            self.assertEqual(hand.text(), before[:at] + "abc" + before[at:])
            if source.random() < 0.3:
                share(hands)

    def test_cuts_of_each_place_and_number(self):
        hand = Hand(2, 0, 2)
        first, second = hand.put(0, "abcdef"), hand.put(0, "ghij")
        order = run_signs(second) + run_signs(first)
        self.assertEqual(hand.text(), "ghijabcdef")
        for many in range(1, 9):
            for at in range(0, 10 - many + 1):
                act = ("cut", tuple(sorted(order[at:at + many])))
                self.check_done_by_a_copy(hand, act, "cut", at, many)
        # The signs of a cut rise, though the text shows them in another order.
        self.assertEqual(hand.cut(3, 2)[4], ("cut", ((0, 0, 0), (0, 1, 3))))
        self.assertEqual(hand.text(), "ghibcdef")
        hand.cut(0, 8)
        self.assertEqual(hand.text(), "")

    def test_marks_of_each_place_number_and_value(self):
        hand = Hand(2, 0, 2)
        first, second = hand.put(0, "abcdef"), hand.put(3, "ghijkl")
        order = run_signs(first)[:3] + run_signs(second) + run_signs(first)[3:]
        for many in range(1, 13):
            for at in range(0, 12 - many + 1):
                act = ("mark", order[at], order[at + many - 1], "b")
                self.check_done_by_a_copy(hand, act, "mark", at, many, "b")
        for value in ("", "a", "z", "abcd", "zzzz"):
            self.check_done_by_a_copy(hand, ("mark", order[4], order[5], value), "mark", 4, 2, value)
        hand.mark(1, 3, "b")
        hand.mark(2, 1, "")
        self.assertEqual([row[2] for row in hand.shown()], ["", "b", "", "b"] + [""] * 8)

    def test_toggles_of_each_writing(self):
        for bound in range(1, 5):
            hand = Hand(3, 2, bound)
            hand.put(0, "abc")
            hand.note()
            hand.cut(0, 1)
            hand.mark(0, 1, "b")
            for number in (0, 2, 3):
                writing = hand.history()[number]
                if not plain_final(hand.history(), bound, writing):
                    self.check_done_by_a_copy(hand, ("toggle", number), "toggle", number)
            self.check_done(hand, ("toggle", 3), "toggle", 3)
            self.check_done(hand, ("toggle", 3), "toggle", 3)
            self.assertEqual(hand.shown()[0][2], "b")

    def test_back_and_again_behind_what_others_did(self):
        one, other = hands_of(2, 1)
        one.put(0, "abc")
        other.hear(one.history())
        other.put(3, "def")
        one.hear(other.history())
        one.toggle(0)
        self.assertEqual(one.text(), "def")
        one.toggle(0)
        self.assertEqual(one.text(), "abcdef")

    def test_notes_and_leaves(self):
        for hands in (2, 3, 4):
            made = hands_of(hands)
            made[0].put(0, "abc")
            share(made)
            for hand in made:
                self.check_done(hand, NOTE, "note")
                self.assertIs(hand.has_left(), False)
                self.check_done(hand, ("leave",), "leave")
                self.assertIs(hand.has_left(), True)
                self.assertEqual(hand.text(), "abc")

    def test_one_that_knows_that_another_has_left_has_not_left_itself(self):
        one, other = hands_of(2)
        one.leave()
        other.hear(one.history())
        self.assertIs(other.has_left(), False)
        self.check_done(other, ("put", None, "x"), "put", 0, "x")

    def test_do_of_each_act_that_is_allowed(self):
        for hands in (2, 3, 4):
            made = hands_of(hands)
            put = made[0].put(0, "abcdefgh")
            share(made)
            signs, last = run_signs(put), made[hands - 1]
            self.check_done_by_a_copy(made[0], ("toggle", 0), "do", ("toggle", 0))
            for act in (
                ("put", None, "x"), ("put", signs[7], "abcdefgh"), ("cut", (signs[3],)), ("cut", tuple(signs)),
                ("mark", signs[0], signs[0], ""), ("mark", signs[2], signs[7], "abcd"), NOTE, ("leave",),
            ):
                self.check_done_by_a_copy(last, act, "do", act)

    def test_do_may_refer_to_signs_that_are_hidden_but_not_dead(self):
        hand = Hand(2, 0, 1)
        signs = run_signs(hand.put(0, "abc"))
        hand.cut(1, 1)
        for act in (("put", signs[1], "x"), ("cut", (signs[1],)), ("mark", signs[1], signs[2], "b")):
            self.check_done_by_a_copy(hand, act, "do", act)

    def test_random_acts(self):
        words = {}
        for seed in range(15):
            source = random.Random(seed)
            bound = seed % 5
            hands = hands_of(2 + seed % 3, bound)
            for _ in range(40):
                hand = source.choice(hands)
                act = random_act(source, hand.history(), bound, hand.number())
                self.check_done(hand, act, "do", act)
                words[act[0]] = True
                if source.random() < 0.3:
                    share(hands)
        self.assertEqual(sorted(words), sorted([*WRITINGS, "toggle", "note"]))

    def test_the_deed_is_what_point_4_tells_of_the_history(self):
        one, other = hands_of(2)
        one.put(0, "a")
        other.put(0, "b")
        one.hear(other.history())
        expected = next_deed_of(2, one.history(), 0, NOTE)
        self.assertEqual(expected, (0, 1, 2, (1, 1), NOTE))
        self.assertEqual(one.note(), expected)


if __name__ == "__main__":
    unittest.main()
