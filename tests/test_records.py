"""textatrest.records: write_deed and read_deed (point 24 of the document)."""

import random
import unittest

from making import random_texts
from textatrest.records import read_deed, write_deed

# The deed, how many hands there are, and its written form.
FORMS = (
    ((0, 0, 1, (0, 0), ("put", None, "a")), 2, '0 0 1 0 0 put none "a"'),
    ((1, 3, 12, (4, 3), ("put", (0, 2, 7), "abcdefgh")), 2, '1 3 12 4 3 put 0:2:7 "abcdefgh"'),
    ((1, 0, 1, (0, 0), ("put", None, " ")), 2, '1 0 1 0 0 put none " "'),
    ((1, 0, 1, (0, 0), ("put", None, "  a : b ")), 2, '1 0 1 0 0 put none "  a : b "'),
    ((1, 0, 1, (0, 0), ("put", (0, 0, 1), "0:1 2:3")), 2, '1 0 1 0 0 put 0:0:1 "0:1 2:3"'),
    ((2, 0, 1, (0, 0, 0), ("put", None, "none")), 3, '2 0 1 0 0 0 put none "none"'),
    ((2, 0, 1, (0, 0, 0), ("put", None, "1234567")), 3, '2 0 1 0 0 0 put none "1234567"'),
    ((0, 1, 2, (1, 0, 0), ("put", None, "~!'\\|{}#")), 3, '0 1 2 1 0 0 put none "~!\'\\|{}#"'),
    ((0, 1, 2, (1, 0, 0), ("cut", ((0, 0, 0),))), 3, "0 1 2 1 0 0 cut 0:0:0"),
    (
        (3, 1, 2, (1, 0, 0, 1), ("cut", ((0, 0, 0), (1, 2, 3), (3, 0, 7)))), 4,
        "3 1 2 1 0 0 1 cut 0:0:0 1:2:3 3:0:7",
    ),
    (
        (0, 1, 2, (1, 0), ("cut", tuple([(0, 0, index) for index in range(8)]))), 2,
        "0 1 2 1 0 cut 0:0:0 0:0:1 0:0:2 0:0:3 0:0:4 0:0:5 0:0:6 0:0:7",
    ),
    ((0, 1, 2, (1, 0), ("mark", (0, 0, 0), (0, 0, 0), "")), 2, '0 1 2 1 0 mark 0:0:0 0:0:0 ""'),
    ((0, 1, 2, (1, 0), ("mark", (1, 9, 0), (0, 0, 3), "bold")), 2, '0 1 2 1 0 mark 1:9:0 0:0:3 "bold"'),
    ((0, 1, 2, (1, 0), ("mark", (0, 0, 0), (0, 0, 1), "b")), 2, '0 1 2 1 0 mark 0:0:0 0:0:1 "b"'),
    ((0, 1, 2, (1, 0), ("toggle", 0)), 2, "0 1 2 1 0 toggle 0"),
    ((0, 11, 22, (11, 33), ("toggle", 10)), 2, "0 11 22 11 33 toggle 10"),
    ((3, 1, 2, (0, 0, 0, 1), ("note",)), 4, "3 1 2 0 0 0 1 note"),
    ((2, 5, 6, (0, 0, 5), ("leave",)), 3, "2 5 6 0 0 5 leave"),
    (
        (1, 9999, 9999, (9999, 9999), ("cut", ((1, 9999, 7), (1, 9999, 9999)))), 2,
        "1 9999 9999 9999 9999 cut 1:9999:7 1:9999:9999",
    ),
    ((1, 1000, 1001, (0, 1000), ("toggle", 9999)), 2, "1 1000 1001 0 1000 toggle 9999"),
)

NUMBERS = "0 1 2 1 0"


class Forms(unittest.TestCase):
    def test_write(self):
        for deed, hands, text in FORMS:
            self.assertEqual(write_deed(deed), text)

    def test_read(self):
        for deed, hands, text in FORMS:
            self.assertEqual(read_deed(hands, text), deed)

    def test_the_kinds_of_what_is_read(self):
        for deed, hands, text in FORMS:
            found = read_deed(hands, text)
            self.assertIsInstance(found, tuple)
            self.assertEqual([type(part) for part in found], [int, int, int, tuple, tuple])
            if found[4][0] == "cut":
                self.assertIsInstance(found[4][1], tuple)
                self.assertTrue(all(isinstance(sign, tuple) for sign in found[4][1]))

    def test_deeds_of_texts_for_all_numbers_of_hands(self):
        many = {}
        for made in random_texts(24, 40):
            for history in made.histories:
                for deed in history:
                    text = write_deed(deed)
                    self.assertEqual(read_deed(made.hands, text), deed)
                    many[(made.hands, deed[4][0])] = True
        self.assertEqual(len(many), 3 * 6)

    def test_whether_it_fits_is_not_asked(self):
        for text in (
            "0 5 1 1 0 note", "0 0 0 0 0 note", "0 0 9 0 0 leave", '1 0 1 0 7 put 1:9:9 "x"',
            '0 1 2 1 0 mark 0:0:3 0:0:1 "b"', "0 0 1 0 0 toggle 17", "0 1 2 1 0 cut 0:9:9",
        ):
            self.assertEqual(write_deed(read_deed(2, text)), text)


class Refused(unittest.TestCase):
    def check_none(self, hands, *texts):
        for text in texts:
            with self.subTest(text=text):
                self.assertIsNone(read_deed(hands, text))

    def check_form(self, hands, text):
        """What is read is None, or its written form is this text again."""
        deed = read_deed(hands, text)
        if deed is not None:
            self.assertEqual(write_deed(deed), text)
        return deed

    def test_nothing(self):
        for hands in (2, 3, 4):
            self.check_none(hands, "", " ", '"', '""', "note", "0", "put", " note", ":", "none")

    def test_a_part_is_left_out(self):
        for deed, hands, text in FORMS:
            parts = text.split(" ")
            for at in range(len(parts)):
                left = " ".join(parts[:at] + parts[at + 1:])
                found = self.check_form(hands, left)
                # A cut may do with one sign less, and a run with one space less.
                if found is not None:
                    self.assertIn(deed[4][0], ("cut", "put"))
                    self.assertNotEqual(found, deed)
            self.check_none(hands, " ".join(parts[:3 + hands]), " ".join(parts[1:]), " ".join(parts[:1]))

    def test_numbers_are_left_out(self):
        for deed, hands, text in FORMS:
            parts = text.split(" ")
            for at in range(3 + hands):
                self.check_none(hands, " ".join(parts[:at] + parts[at + 1:]))

    def test_a_part_is_put_in(self):
        for deed, hands, text in FORMS:
            parts = text.split(" ")
            for at in range(3 + hands):
                for more in ("0", "1", "x", "note", "0:0:0", '"a"', "-", "none"):
                    self.check_none(hands, " ".join(parts[:at] + [more] + parts[at:]))
            for more in (" 0", " x", ' "a"', " note", " ", "a", '"', " none"):
                self.check_none(hands, text + more)
            for more in ("0 ", " ", "x", "-", "+"):
                self.check_none(hands, more + text)

    def test_acts_with_too_many_or_too_few_parts(self):
        self.check_none(
            2, *[f"{NUMBERS} {act}" for act in (
                "put", "put none", 'put "a"', 'put none none "a"', 'put 0:0:0 0:0:1 "a"', 'put none "a" "b"',
                "cut", "cut ", "cut none", "cut 0:0:0 none", 'cut 0:0:0 "a"', "cut 0:0:0 note",
                "mark", "mark 0:0:0", "mark 0:0:0 0:0:1", 'mark 0:0:0 "b"', 'mark 0:0:0 0:0:1 0:0:2 "b"',
                'mark 0:0:0 0:0:1 "b" "b"', 'mark none 0:0:1 "b"', 'mark 0:0:0 none "b"', 'mark "b" 0:0:0 0:0:1',
                "toggle", "toggle ", "toggle 0 0", "toggle x", "toggle none", "toggle 0:0:0", 'toggle "0"',
                "note 0", "note note", "leave 0", "leave leave", 'note ""', "Note", "NOTE", "notes", "not", "",
                "leav", "writes", "putnone", 'put none"a"', 'Put none "a"', 'put None "a"', 'put nonce "a"',
            )],
        )

    def test_double_and_missing_spaces(self):
        for deed, hands, text in FORMS:
            parts = text.split(" ")
            for at in range(1, 3 + hands + 1):
                self.check_none(hands, " ".join(parts[:at]) + "  " + " ".join(parts[at:]))
                found = self.check_form(hands, " ".join(parts[:at]) + " ".join(parts[at:]))
                self.assertIsNone(found)
        self.check_none(
            2, f'{NUMBERS} put  none "a"', f'{NUMBERS} put none  "a"', f"{NUMBERS} cut  0:0:0",
            f"{NUMBERS} cut 0:0:0  0:0:1", f"{NUMBERS} cut 0:0:00:0:1", f'{NUMBERS} mark 0:0:0  0:0:1 "b"',
            f'{NUMBERS} mark 0:0:0 0:0:1  "b"', f'{NUMBERS} mark 0:0:00:0:1 "b"', f'{NUMBERS} mark 0:0:0 0:0:1"b"',
            f"{NUMBERS} toggle  0", f"{NUMBERS} toggle0", f"{NUMBERS}  note", f"{NUMBERS}note", f"{NUMBERS} note ",
            f" {NUMBERS} note", f'{NUMBERS} put none "a" ', f'{NUMBERS} mark 0:0:0 0:0:1 "b" ',
        )

    def test_leading_zeros(self):
        for deed, hands, text in FORMS:
            parts = text.split(" ")
            for at in range(3 + hands):
                self.check_none(hands, " ".join(parts[:at] + ["0" + parts[at]] + parts[at + 1:]))
        self.check_none(
            2, f"{NUMBERS} toggle 00", f"{NUMBERS} toggle 01", f"{NUMBERS} toggle 0010", f"{NUMBERS} cut 00:0:0",
            f"{NUMBERS} cut 0:00:0", f"{NUMBERS} cut 0:0:00", f"{NUMBERS} cut 0:0:07", f'{NUMBERS} put 0:01:0 "a"',
            f'{NUMBERS} mark 0:0:0 0:0:01 "b"', f'{NUMBERS} mark 01:0:0 0:0:1 "b"',
        )

    def test_signs_of_numbers(self):
        for sign in ("-", "+"):
            self.check_none(
                2, f"{NUMBERS} toggle {sign}1", f"{NUMBERS} cut {sign}0:0:0", f"{NUMBERS} cut 0:{sign}1:0",
                f"{NUMBERS} cut 0:0:{sign}1", f'{NUMBERS} put 0:0:{sign}1 "a"', f'{NUMBERS} put {sign} "a"',
                f'{NUMBERS} mark 0:0:{sign}0 0:0:1 "b"', f'{NUMBERS} mark 0:0:0 0:0:{sign}1 "b"',
            )
            for at in range(5):
                parts = NUMBERS.split(" ")
                parts[at] = sign + parts[at]
                self.check_none(2, " ".join(parts) + " note")

    def test_parts_that_are_no_numbers(self):
        for word in ("", "x", "1x", "1_0", "1.0", "0x1", "None", "none", '"1"', "1e3", "1:1", ":", "1-1"):
            for at in range(5):
                parts = NUMBERS.split(" ")
                parts[at] = word
                self.check_none(2, " ".join(parts) + " note")
            self.check_none(2, f"{NUMBERS} toggle {word}", f"{NUMBERS} cut 0:0:{word}", f"{NUMBERS} cut 0:{word}:0")

    def test_five_digits(self):
        for at in range(5):
            parts = NUMBERS.split(" ")
            for word, fine in (("10000", False), ("99999", False), ("9999", at != 0), ("123456", False)):
                parts[at] = word
                found = read_deed(2, " ".join(parts) + " note")
                self.assertIs(found is not None, fine)
        self.check_none(
            2, f"{NUMBERS} toggle 10000", f"{NUMBERS} cut 0:10000:0", f"{NUMBERS} cut 0:0:10000",
            f"{NUMBERS} cut 10000:0:0", f'{NUMBERS} put 0:10000:0 "a"', f'{NUMBERS} mark 0:0:0 0:10000:0 "b"',
        )

    def test_signs_with_other_parts(self):
        for sign in ("0", "0:0", "0:0:", ":0:0", "0::0", "0:0:0:0", "0:0:0:", "0:0:x", "0;0;0", "(0,0,0)", "none"):
            self.check_none(
                2, f"{NUMBERS} cut {sign}", f"{NUMBERS} cut 0:0:0 {sign}", f'{NUMBERS} mark {sign} 0:0:1 "b"',
                f'{NUMBERS} mark 0:0:0 {sign} "b"',
            )
            if sign != "none":
                self.check_none(2, f'{NUMBERS} put {sign} "a"')

    def test_missing_and_doubled_quotes(self):
        for ahead in ("put none ", "put 0:0:0 ", "mark 0:0:0 0:0:1 "):
            for word in ("ab", '"ab', 'ab"', '""ab"', '"ab""', '""ab""', '"a"b"', '"', '"""', '""""', "'ab'", '"a" "b"'):
                self.check_none(2, f"{NUMBERS} {ahead}{word}")

    def test_another_number_of_hands(self):
        for deed, hands, text in FORMS:
            for other in {2, 3, 4} - {hands}:
                self.check_none(other, text)

    def test_a_hand_that_is_none(self):
        self.check_none(2, "2 0 1 0 0 note", "3 0 1 0 0 note", "10 0 1 0 0 note")
        self.check_none(3, "3 0 1 0 0 0 note")
        self.check_none(4, "4 0 1 0 0 0 0 note")
        self.assertEqual(read_deed(4, "3 0 1 0 0 0 0 note"), (3, 0, 1, (0, 0, 0, 0), ("note",)))

    def test_bounds_of_acts(self):
        nine = " ".join([f"0:0:{index}" for index in range(9)])
        self.check_none(
            2, *[f"{NUMBERS} {act}" for act in (
                'put none ""', 'put none "abcdefghi"', 'put 0:0:0 ""', 'put 0:0:0 "         "', f"cut {nine}",
                "cut 0:0:1 0:0:0", "cut 0:0:0 0:0:0", "cut 1:0:0 0:9:9", "cut 0:10:0 0:9:0",
                'mark 0:0:0 0:0:1 "abcde"', 'mark 0:0:0 0:0:1 "A"', 'mark 0:0:0 0:0:1 "1"', 'mark 0:0:0 0:0:1 " "',
                'mark 0:0:0 0:0:1 "a b"', 'mark 0:0:0 0:0:1 "a-b"',
            )],
        )
        self.assertEqual(read_deed(2, f"{NUMBERS} cut 0:9:0 0:10:0")[4], ("cut", ((0, 9, 0), (0, 10, 0))))
        self.assertEqual(read_deed(2, f'{NUMBERS} put none "        "')[4], ("put", None, "        "))

    def test_changed_letters(self):
        source = random.Random(5)
        read = 0
        for deed, hands, text in FORMS:
            for at in range(len(text)):
                for letter in '019 :"ax-+':
                    changed = text[:at] + letter + text[at + 1:]
                    found = self.check_form(hands, changed)
                    self.assertEqual(found == deed, changed == text)
                    read += found is not None
                left = text[:at] + text[at + 1:]
                self.assertNotEqual(self.check_form(hands, left), deed)
                longer = text[:at] + source.choice('019 :"ax-+') + text[at:]
                self.assertNotEqual(self.check_form(hands, longer), deed)
        self.assertGreater(read, 100)


if __name__ == "__main__":
    unittest.main()
