"""textatrest.histories: paths, the order of signs, the text and its values (points 10 to 13)."""

import random
import unittest

from making import Text, other_order, plain_order, plain_path, plain_shown, random_texts, run_signs, sign_of
from textatrest.errors import NoSign, RestError
from textatrest.histories import path, shown, signs, text


def values(history):
    return [row[2] for row in shown(history)]


class Paths(unittest.TestCase):
    def test_a_run_at_the_beginning(self):
        made = Text(2)
        made.do(1, ("note",))
        put = made.do(1, ("put", None, "abc"))
        for index in range(3):
            self.assertEqual(path(made.histories[1], sign_of(put, index)), ((2, 1, index),))

    def test_after_a_sign_of_another_run(self):
        made = Text(2)
        first = made.do(0, ("put", None, "abc"))
        made.hear(1, 0)
        second = made.do(1, ("put", sign_of(first, 1), "xy"))
        self.assertEqual(path(made.histories[1], sign_of(second, 0)), ((1, 0, 1), (2, 1, 0)))
        self.assertEqual(path(made.histories[1], sign_of(second, 1)), ((1, 0, 1), (2, 1, 1)))
        self.assertEqual(path(made.histories[1], sign_of(first, 2)), ((1, 0, 2),))

    def test_several_deep(self):
        made = Text(2)
        put, steps = made.do(0, ("put", None, "ab")), ((1, 0, 1),)
        for turn in range(2, 9):
            hand = turn % 2
            made.hear(hand, 1 - hand)
            put = made.do(hand, ("put", sign_of(put, 1), "ab"))
            steps += ((turn, hand, 1),)
            self.assertEqual(path(made.histories[hand], sign_of(put, 1)), steps)

    def test_very_deep(self):
        history, after = (), None
        for number in range(2000):
            history += ((0, number, number + 1, (number, 0), ("put", after, "a")),)
            after = (0, number, 0)
        self.assertEqual(path(history, after), tuple([(clock, 0, 0) for clock in range(1, 2001)]))
        self.assertEqual(signs(history), [(0, number, 0) for number in range(2000)])
        self.assertEqual(text(history), "a" * 2000)

    def test_of_signs_that_are_not_shown(self):
        made = Text(2, 0)
        put = made.do(0, ("put", None, "abc"))
        made.do(0, ("cut", (sign_of(put, 1),)))
        self.assertEqual(path(made.histories[0], sign_of(put, 1)), ((1, 0, 1),))

    def test_no_sign(self):
        made = Text(2)
        put = made.do(0, ("put", None, "abc"))
        made.do_all(0, ("note",), ("cut", (sign_of(put, 0),)))
        for sign in ((0, 0, 3), (0, 0, 8), (0, 0, -1), (0, 1, 0), (0, 2, 0), (0, 3, 0), (1, 0, 0), (5, 0, 0)):
            with self.subTest(sign):
                self.assertRaises(NoSign, path, made.histories[0], sign)
        self.assertRaises(NoSign, path, (), (0, 0, 0))
        self.assertRaises(RestError, path, made.histories[1], sign_of(put, 0))


class Order(unittest.TestCase):
    def test_nothing(self):
        self.assertEqual((signs(()), shown(()), text(())), ([], [], ""))
        made = Text(2)
        made.do_all(0, ("note",), ("leave",))
        self.assertEqual((signs(made.histories[0]), text(made.histories[0])), ([], ""))

    def test_one_run(self):
        made = Text(2)
        put = made.do(0, ("put", None, "a b~"))
        self.assertEqual(signs(made.histories[0]), run_signs(put))
        self.assertEqual(text(made.histories[0]), "a b~")
        rows = [(sign, character, "") for sign, character in zip(run_signs(put), "a b~")]
        self.assertEqual(shown(made.histories[0]), rows)

    def test_runs_at_the_beginning_by_hands_that_do_not_know_each_other(self):
        made = Text(4)
        for hand, run in enumerate(("abc", "klm", "rst", "xyz")):
            made.do(hand, ("put", None, run))
        made.hear_all()
        for history in made.histories:
            self.assertEqual(text(history), "xyzrstklmabc")

    def test_runs_after_the_same_sign_by_hands_that_do_not_know_each_other(self):
        made = Text(3)
        first = made.do(0, ("put", None, "<>"))
        made.hear_all()
        made.do(0, ("note",))
        made.do(0, ("put", sign_of(first, 0), "abc"))
        made.do(1, ("put", sign_of(first, 0), "klm"))
        made.do(2, ("put", sign_of(first, 0), "rst"))
        made.hear_all()
        for history in made.histories:
            self.assertEqual(text(history), "<abcrstklm>")

    def test_runs_that_are_written_letter_by_letter_are_not_mixed(self):
        made = Text(2)
        for hand, run in ((0, "abcd"), (1, "wxyz")):
            after = None
            for letter in run:
                after = sign_of(made.do(hand, ("put", after, letter)), 0)
        made.hear_all()
        for history in made.histories:
            self.assertEqual(text(history), "wxyzabcd")

    def test_runs_that_are_written_backwards(self):
        made = Text(2)
        for letter in "dcba":
            made.do(0, ("put", None, letter))
        self.assertEqual(text(made.histories[0]), "abcd")

    def test_runs_in_the_middle_of_a_run(self):
        made = Text(2)
        first = made.do(0, ("put", None, "abcd"))
        made.hear(1, 0)
        inner = made.do(1, ("put", sign_of(first, 1), "12"))
        made.do(1, ("put", sign_of(inner, 0), "xy"))
        made.do(0, ("put", sign_of(first, 2), "!"))
        made.hear_all()
        for history in made.histories:
            self.assertEqual(text(history), "ab1xy2c!d")
        inside = [(1, 0, 0), (1, 1, 0), (1, 1, 1), (1, 0, 1)]
        whole = [(0, 0, 0), (0, 0, 1), *inside, (0, 0, 2), (0, 1, 0), (0, 0, 3)]
        self.assertEqual(signs(made.histories[0]), whole)

    def test_a_run_that_knows_the_other_one_may_stand_in_it(self):
        made = Text(2)
        first = made.do(0, ("put", None, "ad"))
        made.hear(1, 0)
        made.do(1, ("put", sign_of(first, 0), "bc"))
        self.assertEqual(text(made.histories[1]), "abcd")

    def test_characters_that_are_deleted(self):
        made = Text(2)
        first = made.do(0, ("put", None, "abcdef"))
        made.hear(1, 0)
        made.do(1, ("cut", (sign_of(first, 0), sign_of(first, 3), sign_of(first, 5))))
        self.assertEqual(text(made.histories[1]), "bce")
        self.assertEqual(signs(made.histories[1]), run_signs(first))
        made.do(0, ("put", sign_of(first, 3), "xy"))
        made.hear_all()
        for history in made.histories:
            self.assertEqual(text(history), "bcxye")
        made.do(1, ("toggle", 0))
        self.assertEqual(text(made.histories[1]), "abcdxyef")

    def test_a_run_that_is_taken_back_leaves_what_is_written_in_it(self):
        made = Text(2)
        first = made.do(0, ("put", None, "abc"))
        made.hear(1, 0)
        made.do(1, ("put", sign_of(first, 1), "xy"))
        made.do(0, ("toggle", 0))
        made.hear_all()
        for history in made.histories:
            self.assertEqual(text(history), "xy")
        made.do(0, ("toggle", 0))
        self.assertEqual(text(made.histories[0]), "abxyc")


class Marks(unittest.TestCase):
    def setUp(self):
        self.made = Text(3)
        self.first = self.made.do(0, ("put", None, "abcdef"))
        self.made.hear_all()

    def mark(self, hand, low, high, value):
        act = ("mark", sign_of(self.first, low), sign_of(self.first, high), value)
        return self.made.do(hand, act)

    def check(self, expected):
        self.made.hear_all()
        for history in self.made.histories:
            self.assertEqual(values(history), expected)

    def test_no_mark(self):
        self.check([""] * 6)

    def test_both_ends_are_covered(self):
        self.mark(0, 1, 3, "b")
        self.check(["", "b", "b", "b", "", ""])

    def test_one_sign_and_all_signs(self):
        self.mark(0, 2, 2, "b")
        self.check(["", "", "b", "", "", ""])
        self.mark(0, 0, 5, "wide")
        self.check(["wide"] * 6)

    def test_of_those_that_cover_a_sign_the_latest_counts(self):
        self.mark(0, 0, 3, "b")
        self.mark(0, 2, 5, "i")
        self.check(["b", "b", "i", "i", "i", "i"])
        self.mark(1, 3, 3, "u")
        self.check(["b", "b", "i", "u", "i", "i"])

    def test_at_the_same_clock_the_greater_hand_is_the_latest(self):
        for hand, value in ((2, "c"), (0, "a"), (1, "b")):
            self.mark(hand, hand, 4, value)
        self.check(["a", "b", "c", "c", "c", ""])

    def test_the_greater_clock_counts_before_the_hand(self):
        self.made.do(0, ("note",))
        self.mark(2, 0, 5, "c")
        self.mark(0, 0, 2, "a")
        self.check(["a", "a", "a", "c", "c", "c"])

    def test_the_empty_string_is_a_value(self):
        self.mark(0, 0, 5, "b")
        self.mark(0, 1, 2, "")
        self.check(["b", "", "", "b", "b", "b"])

    def test_marks_that_are_taken_back(self):
        self.mark(0, 0, 5, "b")
        late = self.mark(0, 1, 4, "i")
        self.made.do(0, ("toggle", late[1]))
        self.check(["b"] * 6)
        self.made.do(0, ("toggle", late[1]))
        self.check(["b", "i", "i", "i", "i", "b"])
        self.made.do(0, ("toggle", late[1] - 1))
        self.check(["", "i", "i", "i", "i", ""])

    def test_a_mark_that_is_done_again_has_its_own_time(self):
        early = self.mark(0, 0, 5, "b")
        self.mark(0, 1, 2, "i")
        self.made.do_all(0, ("toggle", early[1]), ("toggle", early[1]))
        self.check(["b", "i", "i", "b", "b", "b"])

    def test_what_is_written_into_a_mark_is_covered(self):
        self.made.do(1, ("put", sign_of(self.first, 1), "xy"))
        self.mark(0, 1, 2, "b")
        self.check(["", "b", "b", "b", "b", "", "", ""])

    def test_what_is_written_behind_its_last_sign_is_not_covered(self):
        self.mark(0, 1, 2, "b")
        self.made.do(1, ("put", sign_of(self.first, 2), "xy"))
        self.made.do(1, ("put", sign_of(self.first, 0), "vw"))
        self.check(["", "", "", "b", "b", "", "", "", "", ""])

    def test_signs_at_the_ends_that_are_no_longer_shown(self):
        self.mark(0, 1, 4, "b")
        self.made.do(1, ("cut", (sign_of(self.first, 1), sign_of(self.first, 4))))
        self.check(["", "b", "b", ""])
        self.made.do(2, ("put", sign_of(self.first, 1), "x"))
        self.made.do(2, ("put", sign_of(self.first, 4), "y"))
        self.check(["", "b", "b", "b", "", ""])

    def test_signs_at_the_ends_that_are_dead(self):
        self.made = Text(2, 0)
        self.first = self.made.do(0, ("put", None, "abcd"))
        self.mark(0, 1, 2, "b")
        self.made.do(0, ("cut", (sign_of(self.first, 2),)))
        self.check(["", "b", ""])

    def test_a_mark_from_one_run_to_another(self):
        second = self.made.do(1, ("put", sign_of(self.first, 5), "xyz"))
        self.made.do(1, ("mark", sign_of(self.first, 4), sign_of(second, 1), "b"))
        self.check(["", "", "", "", "b", "b", "b", "b", ""])


class AllTexts(unittest.TestCase):
    def test_they_are_what_the_document_says(self):
        for made in random_texts(40, 40):
            for history in made.histories:
                order = plain_order(history)
                self.assertEqual(signs(history), order)
                for sign in order:
                    self.assertEqual(path(history, sign), plain_path(history, sign))
                rows = plain_shown(history)
                self.assertEqual(shown(history), rows)
                self.assertEqual(text(history), "".join([row[1] for row in rows]))

    def test_the_same_deeds_in_another_order_show_the_same(self):
        source = random.Random(7)
        for made in random_texts(30, 40):
            history = made.histories[0]
            again = other_order(source, history)
            self.assertEqual(shown(again), shown(history))
            self.assertEqual(signs(again), signs(history))

    def test_runs_after_the_same_sign_are_not_mixed(self):
        pairs = 0
        for made in random_texts(30, 50):
            made.hear_all()
            history = made.histories[0]
            order = signs(history)
            puts = [deed for deed in history if deed[4][0] == "put"]
            for one in puts:
                for other in puts:
                    if one[4][1] == other[4][1] and one[1] >= other[3][one[0]] and one[0] < other[0]:
                        if other[1] >= one[3][other[0]]:
                            pairs += 1
                            self.check_apart(order, run_signs(one), run_signs(other))
        self.assertGreater(pairs, 20)

    def check_apart(self, order, one, other):
        one, other = [order.index(sign) for sign in one], [order.index(sign) for sign in other]
        self.assertEqual((one, other), (sorted(one), sorted(other)))
        self.assertTrue(one[-1] < other[0] or other[-1] < one[0])

    def test_the_lists_are_new_and_the_history_stays_as_it_was(self):
        for made in random_texts(6, 30):
            history = made.histories[0]
            before = repr(history)
            for function in (signs, shown):
                found = function(history)
                self.assertIsInstance(found, list)
                expected = list(found)
                found.append("changed by the caller")
                self.assertEqual(function(history), expected)
            text(history)
            for sign in signs(history):
                self.assertIsInstance(path(history, sign), tuple)
            self.assertEqual(repr(history), before)


if __name__ == "__main__":
    unittest.main()
