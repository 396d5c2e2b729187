"""textatrest.acts: point 5 of the document."""

import unittest

from textatrest import acts
from textatrest.acts import is_act, is_writing, signs_of

SIGN = (0, 0, 0)
NEXT = (0, 0, 1)


def row_of(many):
    return tuple([(1, 2, index) for index in range(many)])


class Bounds(unittest.TestCase):
    def test_the_numbers_of_the_document(self):
        self.assertEqual(acts.RUN_MOST, 8)
        self.assertEqual(acts.SIGNS_MOST, 8)


class Writings(unittest.TestCase):
    def test_puts_cuts_and_marks_are(self):
        for act in (
            ("put", None, "a"),
            ("put", SIGN, "ab c"),
            ("cut", (SIGN,)),
            ("mark", SIGN, NEXT, "b"),
            ("mark", SIGN, SIGN, ""),
        ):
            with self.subTest(act):
                self.assertIs(is_writing(act), True)

    def test_toggle_note_and_leave_are_not(self):
        for act in (("toggle", 0), ("toggle", 7), ("note",), ("leave",)):
            with self.subTest(act):
                self.assertIs(is_writing(act), False)


class Signs(unittest.TestCase):
    def test_of_a_put(self):
        self.assertEqual(signs_of(("put", None, "abc")), [])
        self.assertEqual(signs_of(("put", (1, 2, 3), "abc")), [(1, 2, 3)])

    def test_of_a_cut(self):
        self.assertEqual(signs_of(("cut", ((1, 2, 3),))), [(1, 2, 3)])
        self.assertEqual(signs_of(("cut", row_of(8))), list(row_of(8)))

    def test_of_a_mark(self):
        self.assertEqual(signs_of(("mark", (0, 1, 2), (3, 4, 5), "b")), [(0, 1, 2), (3, 4, 5)])
        self.assertEqual(signs_of(("mark", (3, 4, 5), (0, 1, 2), "")), [(3, 4, 5), (0, 1, 2)])

    def test_of_a_mark_from_a_sign_to_itself_as_often_as_it_occurs(self):
        self.assertEqual(signs_of(("mark", (3, 4, 5), (3, 4, 5), "b")), [(3, 4, 5), (3, 4, 5)])

    def test_of_the_others(self):
        for act in (("toggle", 3), ("note",), ("leave",)):
            with self.subTest(act):
                self.assertEqual(signs_of(act), [])

    def test_the_list_is_new_and_the_act_stays_as_it_was(self):
        for act in (
            ("put", None, "abc"),
            ("put", SIGN, "abc"),
            ("cut", (SIGN, NEXT)),
            ("mark", SIGN, NEXT, "b"),
            ("toggle", 0),
            ("note",),
            ("leave",),
        ):
            with self.subTest(act):
                before = tuple(act)
                found = signs_of(act)
                self.assertIsInstance(found, list)
                expected = list(found)
                found.append("changed by the caller")
                self.assertEqual(signs_of(act), expected)
                self.assertEqual(act, before)


class Acts(unittest.TestCase):
    def check(self, act, expected):
        with self.subTest(act=act):
            before = tuple(act)
            self.assertIs(is_act(act), expected)
            self.assertEqual(act, before)

    def check_sign_places(self, sign, expected):
        self.check(("put", sign, "a"), expected)
        self.check(("cut", (sign,)), expected)
        self.check(("cut", tuple(sorted([sign, (5, 5, 5)]))), expected)
        self.check(("mark", sign, SIGN, "b"), expected)
        self.check(("mark", SIGN, sign, "b"), expected)

    def test_the_length_of_a_text(self):
        for after in (None, SIGN):
            for text, expected in (
                ("", False),
                ("a", True),
                ("abcdefgh", True),
                ("abcdefghi", False),
                (" ", True),
                ("~ !'()*~", True),
                ("a" * 1000, False),
            ):
                self.check(("put", after, text), expected)

    def test_how_many_signs_are_cut(self):
        for many, expected in ((0, False), (1, True), (2, True), (8, True), (9, False), (100, False)):
            self.check(("cut", row_of(many)), expected)

    def test_signs_that_rise(self):
        self.check(("cut", ((0, 0, 0), (0, 0, 1))), True)
        self.check(("cut", ((0, 0, 7), (0, 1, 0))), True)
        self.check(("cut", ((0, 9, 7), (1, 0, 0))), True)
        self.check(("cut", ((0, 0, 9), (0, 0, 10))), True)

    def test_signs_that_are_equal(self):
        self.check(("cut", (SIGN, SIGN)), False)
        self.check(("cut", (SIGN, NEXT, NEXT)), False)
        self.check(("cut", (SIGN, SIGN, NEXT)), False)

    def test_signs_that_fall(self):
        self.check(("cut", ((0, 0, 1), (0, 0, 0))), False)
        self.check(("cut", ((0, 1, 0), (0, 0, 7))), False)
        self.check(("cut", ((1, 0, 0), (0, 9, 7))), False)
        self.check(("cut", ((0, 0, 0), (0, 0, 2), (0, 0, 1))), False)
        self.check(("cut", ((0, 0, 1), (0, 0, 0), (0, 0, 2))), False)
        self.check(("cut", row_of(7) + ((1, 2, 0),)), False)

    def test_the_length_of_a_value(self):
        for value, expected in (
            ("", True),
            ("a", True),
            ("z", True),
            ("bold", True),
            ("azaz", True),
            ("bolds", False),
            ("a" * 100, False),
        ):
            self.check(("mark", SIGN, NEXT, value), expected)

    def test_the_characters_of_a_value(self):
        # The neighbours of a and z, capitals, digits and the like, alone and at each place.
        for letter in (" ", "!", "0", "9", "A", "Z", "_", "`", "{", "~", "-", "'"):
            for value in (letter, letter + "bc", "a" + letter + "c", "abc" + letter):
                self.check(("mark", SIGN, NEXT, value), False)

    def test_every_letter_is_one(self):
        for letter in "abcdefghijklmnopqrstuvwxyz":
            self.check(("mark", SIGN, SIGN, letter), True)

    def test_a_mark_from_one_sign_to_another_and_to_itself(self):
        self.check(("mark", SIGN, NEXT, "b"), True)
        self.check(("mark", SIGN, SIGN, "b"), True)

    def test_whether_first_comes_after_last_is_not_asked(self):
        self.check(("mark", (3, 9, 7), SIGN, "b"), True)

    def test_the_number_of_a_toggle(self):
        for number, expected in ((0, True), (1, True), (10 ** 30, True), (-1, False), (-100, False)):
            self.check(("toggle", number), expected)

    def test_parts_of_signs_from_zero_on(self):
        for sign in ((0, 0, 0), (3, 0, 0), (0, 9999, 0), (0, 0, 7), (1, 10 ** 30, 3)):
            self.check_sign_places(sign, True)

    def test_parts_of_signs_below_zero(self):
        for sign in ((-1, 0, 0), (0, -1, 0), (0, 0, -1), (-1, -1, -1), (2, 3, -1)):
            self.check_sign_places(sign, False)

    def test_one_sign_of_many_is_below_zero(self):
        self.check(("cut", ((0, 0, -1), (0, 0, 0), (0, 0, 1))), False)
        self.check(("cut", ((0, 0, 0), (0, 1, -1), (0, 1, 1))), False)
        self.check(("cut", ((0, 0, 0), (0, 0, 1), (0, 1, -1))), False)

    def test_note_and_leave(self):
        self.check(("note",), True)
        self.check(("leave",), True)

    def test_other_words_are_no_acts(self):
        self.check(("jump",), False)
        self.check(("Put", None, "a"), False)


if __name__ == "__main__":
    unittest.main()
