"""textatrest.throwing: witness and fault (points 19 to 23 of the document)."""

import random
import unittest
from itertools import product

from making import (
    WRITINGS, Text, plain_fault, plain_follows, plain_gone, plain_order, plain_version, random_act,
    random_texts, run_signs, sign_of,
)
from textatrest.errors import NoSign, RestError
from textatrest.throwing import fault, is_gone, kept, witness

NOTE = ("note",)
ABSENT = ((0, 0, 3), (0, 0, 9), (0, 0, -1), (0, 1, 0), (0, 7, 0), (1, 0, 0), (9, 0, 0))


def witness_of(made, own, sign):
    return witness(made.hands, made.bound, made.histories[own], own, sign)


def fault_of(made, own, sign, course):
    return fault(made.hands, made.bound, made.histories[own], own, sign, course)


class Witness(unittest.TestCase):
    def check_found(self, made, own, sign):
        """There is a witness, and it is one, also by the word of the document."""
        course = witness_of(made, own, sign)
        self.assertIsInstance(course, tuple)
        self.assertIsNone(fault_of(made, own, sign, course))
        self.assertIsNone(plain_fault(made.hands, made.bound, made.histories[own], own, sign, course))
        return course

    def check_hidden(self, made, own, sign):
        self.check_found(made, own, sign)
        self.assertEqual(fault_of(made, own, sign, ()), ("needless",))

    def cut_by(self, *hands):
        """Hand 0 wrote abc, then these hands deleted the b, neither knowing the others."""
        made = Text(3, 2)
        put = made.do(0, ("put", None, "abc"))
        made.hear_all()
        for hand in hands:
            made.do(hand, ("cut", (sign_of(put, 0), sign_of(put, 1))))
        return made, sign_of(put, 1)

    def test_signs_that_are_shown(self):
        made = Text(2)
        put = made.do(0, ("put", None, "abc"))
        for sign in run_signs(put):
            self.check_found(made, 0, sign)
            self.assertIsNone(fault_of(made, 0, sign, ()))

    def test_hidden_by_a_put_that_is_taken_back(self):
        made = Text(2)
        put = made.do(0, ("put", None, "abc"))
        made.do(0, ("toggle", 0))
        made.hear_all()
        for own, sign in product(range(2), run_signs(put)):
            self.check_hidden(made, own, sign)

    def test_hidden_by_one_cut(self):
        for cutter in range(3):
            made, sign = self.cut_by(cutter)
            made.hear_all()
            for own in range(3):
                self.check_hidden(made, own, sign)

    def test_hidden_by_two_and_three_cuts(self):
        for cutters in ((0, 1), (1, 2), (2, 1), (0, 1, 2), (1, 1), (2, 0, 2)):
            made, sign = self.cut_by(*cutters)
            made.hear_all()
            for own in range(3):
                self.check_hidden(made, own, sign)

    def test_hidden_by_a_cut_and_by_its_put(self):
        made, sign = self.cut_by(0, 2)
        made.do(0, ("toggle", 0))
        made.hear_all()
        for own in range(3):
            self.check_hidden(made, own, sign)

    def test_cuts_that_are_taken_back_hide_nothing(self):
        made, sign = self.cut_by(1, 2)
        made.do(1, ("toggle", 0))
        made.hear_all()
        for own in range(3):
            self.check_hidden(made, own, sign)
        made.do(2, ("toggle", 0))
        made.hear_all()
        for own in range(3):
            self.assertIsNone(fault_of(made, own, sign, ()))
            self.check_found(made, own, sign)

    def test_dead_here_and_the_others_did_nothing_yet(self):
        for hands in (2, 3, 4):
            made = Text(hands, 0)
            put = made.do(0, ("put", None, "abc"))
            made.do(0, ("cut", (sign_of(put, 1),)))
            self.check_hidden(made, 0, sign_of(put, 1))
            made.hear_all()
            self.check_hidden(made, 0, sign_of(put, 1))
            for own in range(1, hands):
                # The cut tells that hand 0 knows of it, so of two hands both know.
                if hands == 2:
                    self.assertIsNone(witness_of(made, own, sign_of(put, 1)))
                else:
                    self.check_hidden(made, own, sign_of(put, 1))

    def test_dead_here_and_another_one_knows_the_put_but_not_the_cut(self):
        made = Text(3, 0)
        made.do(2, NOTE)
        made.hear_all()
        put = made.do(0, ("put", None, "abc"))
        made.hear_all()
        made.do(2, NOTE)
        made.do_all(0, ("cut", (sign_of(put, 1),)), NOTE)
        made.hear(1, 0)
        made.do(1, NOTE)
        made.hear(0, 2)
        made.hear(0, 1)
        self.check_hidden(made, 0, sign_of(put, 1))

    def test_dead_here_and_another_one_knows_nothing_of_a_deep_put(self):
        made = Text(4, 1)
        put = made.do(0, ("put", None, "ab"))
        for hand in (1, 2):
            made.hear(hand, hand - 1)
            put = made.do(hand, ("put", sign_of(put, 1), "cd"))
        made.do_all(2, ("toggle", 0), ("put", None, "x"))
        made.do_all(3, NOTE, NOTE)
        made.hear(2, 3)
        self.check_hidden(made, 2, sign_of(put, 0))

    def test_none_exactly_when_all_have_acknowledged(self):
        made = Text(3, 0)
        put = made.do(0, ("put", None, "abc"))
        made.do(0, ("cut", (sign_of(put, 1),)))
        made.hear_all()
        for hand in (1, 2):
            self.check_hidden(made, 0, sign_of(put, 1))
            made.do(hand, NOTE)
            made.hear_all()
        for own in range(3):
            self.assertIsNone(witness_of(made, own, sign_of(put, 1)))
            self.check_found(made, own, sign_of(put, 0))

    def test_a_hand_that_has_left_writes_nothing_any_more(self):
        made = Text(2, 0)
        put = made.do(0, ("put", None, "abc"))
        made.hear(1, 0)
        made.do(1, ("leave",))
        made.do(0, ("cut", (sign_of(put, 1),)))
        self.check_hidden(made, 0, sign_of(put, 1))
        made.hear(0, 1)
        self.assertIsNone(witness_of(made, 0, sign_of(put, 1)))

    def test_the_toggles_are_those_of_point_22(self):
        made, sign = self.cut_by(2, 0)
        made.do(0, ("toggle", 0))
        made.hear(1, 0)
        made.hear(1, 2)
        course = (
            (0, 3, 4, (3, 0, 1), ("toggle", 0)),
            (0, 4, 5, (4, 0, 1), ("toggle", 1)),
            (2, 1, 6, (5, 0, 1), ("toggle", 0)),
        )
        self.assertEqual(self.check_found(made, 1, sign), course)

    def test_the_put_is_that_of_point_22(self):
        made = Text(4, 0)
        put = made.do(1, ("put", None, "abc"))
        made.do(1, ("cut", (sign_of(put, 2),)))
        made.hear(0, 1)
        made.do(0, NOTE)
        made.hear(2, 1, 1)
        made.do_all(2, NOTE, NOTE)
        made.hear(1, 0)
        sign = sign_of(put, 2)
        self.assertEqual(self.check_found(made, 1, sign), ((2, 0, 2, (0, 1, 0, 0), ("put", sign, "x")),))
        made.hear(1, 2)
        self.assertEqual(self.check_found(made, 1, sign), ((2, 2, 4, (0, 1, 2, 0), ("put", sign, "x")),))

    def test_no_sign(self):
        made = Text(2)
        made.do_all(0, ("put", None, "abc"), NOTE)
        for sign in ABSENT:
            with self.subTest(sign):
                self.assertRaises(NoSign, witness_of, made, 0, sign)
        self.assertRaises(NoSign, witness, 2, 0, (), 0, (0, 0, 0))
        self.assertRaises(RestError, witness_of, made, 1, (0, 0, 0))

    def test_none_exactly_for_what_is_gone(self):
        found = []
        for made in random_texts(60, 50):
            for own, history in enumerate(made.histories):
                before = repr(history)
                row = kept(made.hands, made.bound, history, own)
                for sign in plain_order(history):
                    lost = plain_gone(made.hands, made.bound, history, own, sign)
                    self.assertEqual(sign not in row, lost)
                    if lost:
                        self.assertIsNone(witness_of(made, own, sign))
                    found.append(None if lost else len(self.check_found(made, own, sign)))
                self.assertEqual(repr(history), before)
        for many, least in ((None, 100), (0, 100), (1, 100), (2, 5)):
            self.assertGreater(found.count(many), least, many)


class Following(unittest.TestCase):
    """A course of three deeds by three hands, and what is wrong with it if a deed is changed."""

    def setUp(self):
        self.made = Text(3, 1)
        self.put = self.made.do(0, ("put", None, "abc"))
        self.made.hear_all()
        self.made.do(1, ("cut", (sign_of(self.put, 1),)))
        self.made.do(1, ("put", None, "d"))
        self.made.do(2, ("put", sign_of(self.put, 2), "e"))
        self.made.do(2, NOTE)
        self.made.hear_all()
        self.made.do_all(0, NOTE)
        self.dead, self.hidden = sign_of(self.put, 1), sign_of(self.put, 0)
        self.made.do(0, ("cut", (self.hidden,)))
        # Hand 0 has heard all, but hand 1 has acknowledged (1, 2, 0), and hand 2 only (1, 0, 2).
        self.history = self.made.histories[0]
        self.assertEqual(plain_version(3, self.history), (3, 2, 2))
        self.course = (
            (2, 2, 4, (1, 0, 2), ("put", self.dead, "x")),
            (1, 2, 5, (1, 2, 3), ("put", (2, 2, 0), "y")),
            (0, 3, 6, (3, 3, 3), ("put", self.hidden, "z")),
        )

    def fault(self, course, sign=None):
        return fault(3, 1, self.history, 0, sign or self.dead, course)

    def clock_for(self, at, seen):
        """The clock that goes with what is seen, so that only what is seen can be wrong."""
        known = self.history + self.course[:at]
        return 1 + max([deed[2] for deed in known if deed[1] < seen[deed[0]]], default=0)

    def check(self, at, **parts):
        """The fault is the deed at this place, if it is changed so."""
        names = ("hand", "number", "clock", "seen", "act")
        if "seen" in parts and "clock" not in parts:
            parts["clock"] = self.clock_for(at, parts["seen"])
        row = [parts.get(name, part) for name, part in zip(names, self.course[at])]
        course = self.course[:at] + (tuple(row),) + self.course[at + 1:]
        with self.subTest(at=at, **parts):
            for sign in (self.dead, self.hidden):
                self.assertEqual(self.fault(course, sign), ("deed", at))
                self.assertEqual(self.fault(course[:at + 1], sign), ("deed", at))

    def test_the_course_is_a_witness(self):
        self.assertIsNone(self.fault(self.course))
        self.assertIsNone(self.fault(self.course, self.hidden))
        self.assertIsNone(self.fault(self.course[:1]))
        self.assertIsNone(self.fault(self.course[:2]))
        self.assertIsNone(plain_fault(3, 1, self.history, 0, self.dead, self.course))

    def test_needless(self):
        self.assertEqual(self.fault(()), ("needless",))
        for many in range(3):
            self.assertEqual(self.fault(self.course[:many], self.hidden), ("needless",))
        note = (1, 2, 4, (1, 2, 0), NOTE)
        self.assertEqual(self.fault((note,)), ("needless",))

    def test_a_shown_sign_that_the_course_hides_is_needless(self):
        made = Text(2)
        put = made.do(0, ("put", None, "ab"))
        toggle = (0, 1, 2, (1, 0), ("toggle", 0))
        self.assertIsNone(fault_of(made, 0, sign_of(put, 0), ()))
        self.assertEqual(fault_of(made, 0, sign_of(put, 0), (toggle,)), ("needless",))
        cut = (0, 1, 2, (1, 0), ("cut", (sign_of(put, 0),)))
        self.assertIsNone(fault_of(made, 0, sign_of(put, 0), (cut,)))
        self.assertIsNone(fault_of(made, 0, sign_of(put, 1), (cut,)))

    def test_each_way_to_refer(self):
        for act in (
            ("put", self.dead, "x"),
            ("cut", (self.dead,)),
            ("cut", (self.hidden, self.dead)),
            ("mark", self.dead, (0, 0, 2), "b"),
            ("mark", self.hidden, self.dead, ""),
        ):
            deed = self.course[0][:4] + (act,)
            self.assertIsNone(self.fault((deed,)))
            other = (deed, self.course[0][:1] + (3, 5, (1, 0, 3), NOTE))
            self.assertIsNone(self.fault(other))

    def test_a_reference_to_another_sign_of_the_run_is_none(self):
        deed = self.course[0][:4] + (("put", (0, 0, 2), "x"),)
        self.assertEqual(self.fault((deed,)), ("needless",))

    def test_a_wrong_number(self):
        for at, deed in enumerate(self.course):
            for number in (deed[1] - 1, deed[1] + 1, 0, 99, -1):
                self.check(at, number=number)

    def test_a_wrong_number_with_a_seen_that_fits(self):
        self.check(0, number=1, seen=(1, 0, 1))
        self.check(0, number=3, seen=(1, 0, 3))
        self.check(1, number=3, seen=(1, 3, 3))
        self.check(2, number=4, seen=(4, 3, 3))

    def test_a_wrong_clock(self):
        for at, deed in enumerate(self.course):
            for clock in (deed[2] - 1, deed[2] + 1, 0, 99):
                self.check(at, clock=clock)

    def test_seen_that_is_no_version(self):
        self.check(0, seen=(1, 0), clock=4)
        self.check(0, seen=(1, 0, 2, 0), clock=4)
        self.check(0, seen=(1, -1, 2))

    def test_seen_without_its_own_deeds(self):
        self.check(0, seen=(1, 0, 1))
        self.check(1, seen=(1, 1, 3))
        self.check(2, seen=(2, 3, 3))

    def test_seen_beyond_what_is_there(self):
        self.check(0, seen=(1, 0, 3))
        self.check(0, seen=(4, 0, 2))
        self.check(0, seen=(1, 3, 2))
        self.check(1, seen=(1, 2, 4))
        self.check(1, seen=(1, 3, 3))
        self.check(2, seen=(4, 3, 3))
        self.check(2, seen=(3, 4, 3))

    def test_seen_without_what_its_hand_has_acknowledged(self):
        self.check(0, seen=(0, 0, 2))
        self.check(1, seen=(0, 2, 3))
        # Of the own hand it is the version ahead of the course, also what it has only heard.
        self.made.do(2, NOTE)
        self.made.hear(0, 2)
        self.history = self.made.histories[0]
        for seen, expected in (((3, 2, 3), ("needless",)), ((3, 2, 2), ("deed", 0))):
            self.assertEqual(self.fault(((0, 3, 6, seen, NOTE),)), expected)

    def test_seen_that_is_not_closed(self):
        # The course's first deed is known by its second one, but not seen.
        self.check(2, seen=(3, 3, 2))
        # Hand 2 sees the deed of hand 0 that saw both deeds of hand 1, but sees none of these.
        self.check(0, seen=(2, 0, 2))
        self.check(0, seen=(2, 1, 2))
        self.check(1, seen=(2, 2, 0))
        self.check(1, seen=(2, 2, 1))
        # It may see them all; then the sign is dead for it.
        self.check(0, seen=(2, 2, 2))
        note = (2, 2, 5, (2, 2, 2), NOTE)
        self.assertEqual(self.fault((note,)), ("needless",))

    def test_seen_without_the_deeds_of_its_hand_in_the_course(self):
        first = self.course[0]
        second = (2, 3, 5, (1, 0, 3), NOTE)
        self.assertIsNone(self.fault((first, second)))
        for clock, seen in ((4, (1, 0, 2)), (5, (0, 0, 3))):
            self.assertEqual(self.fault((first, (2, 3, clock, seen, NOTE))), ("deed", 1))
        told = (1, 2, 4, (1, 2, 0), NOTE)
        self.assertEqual(self.fault((told, (1, 3, 5, (1, 3, 0), NOTE))), ("needless",))
        self.assertEqual(self.fault((told, (1, 3, 4, (1, 2, 0), NOTE))), ("deed", 1))

    def test_seen_without_what_the_deeds_of_its_hand_in_the_course_have_seen(self):
        told = (1, 2, 4, (1, 2, 0), NOTE)
        heard = (2, 2, 5, (1, 3, 2), NOTE)
        self.assertEqual(self.fault((told, heard)), ("needless",))
        for seen in ((1, 2, 3), (1, 0, 3), (0, 3, 3)):
            self.assertEqual(self.fault((told, heard, (2, 3, 6, seen, NOTE))), ("deed", 2))
        self.assertEqual(self.fault((told, heard, (2, 3, 6, (1, 3, 3), NOTE))), ("needless",))

    def test_the_own_hand_need_not_hear_the_deeds_of_the_course(self):
        for seen in ((3, 2, 2), (3, 2, 3), (3, 3, 3)):
            last = (0, 3, 6, seen, ("put", self.hidden, "z"))
            self.assertIsNone(self.fault(self.course[:2] + (last,), self.hidden))

    def test_a_wrong_act(self):
        ends = ((0, 0, 0), (0, 0, 2))
        for at in range(3):
            for act in (
                ("put", None, ""),
                ("put", None, "nine char"),
                ("cut", ()),
                ("cut", ends[::-1]),
                ("cut", (ends[1], ends[1])),
                ("cut", (ends[0],) * 9),
                ("mark", *ends, "wider"),
                ("mark", *ends, "B"),
                ("toggle", -1),
                ("put", (0, 0, -1), "x"),
            ):
                self.check(at, act=act)

    def test_a_deed_that_is_not_allowed(self):
        for at in range(3):
            for act in (
                ("put", (0, 0, 3), "x"),
                ("cut", ((0, 9, 0),)),
                ("mark", (0, 0, 2), (0, 0, 0), "b"),
                ("toggle", 99),
                # A note, then writings that are final.
                ("toggle", (1, 0, 0)[at]),
            ):
                self.check(at, act=act)
        self.check(1, act=("put", self.dead, "x"))
        self.check(2, act=("put", self.dead, "x"))

    def test_a_deed_of_a_hand_that_left_in_the_course(self):
        leave = (2, 2, 4, (1, 0, 2), ("leave",))
        note = (2, 3, 5, (1, 0, 3), NOTE)
        self.assertEqual(self.fault((leave,)), ("needless",))
        self.assertEqual(self.fault((leave, note)), ("deed", 1))
        self.assertEqual(self.fault((leave, note, self.course[2])), ("deed", 1))

    def test_a_deed_of_a_hand_that_is_none(self):
        for at in range(3):
            for hand in (3, 4, 99, -1, -3):
                self.check(at, hand=hand)

    def test_a_deed_of_another_hand(self):
        self.check(0, hand=1)
        self.check(0, hand=0)
        self.check(1, hand=0)
        self.check(1, hand=2)

    def test_the_first_deed_that_cannot_follow_is_told(self):
        first, second, third = self.course
        bad = [deed[:2] + (77,) + deed[3:] for deed in self.course]
        self.assertEqual(self.fault((bad[0], bad[1], bad[2])), ("deed", 0))
        self.assertEqual(self.fault((first, bad[1], bad[2])), ("deed", 1))
        self.assertEqual(self.fault((first, second, bad[2])), ("deed", 2))
        self.assertEqual(self.fault((first, first)), ("deed", 1))
        self.assertEqual(self.fault((second, first)), ("deed", 0))
        self.assertEqual(self.fault((first, third)), ("deed", 1))

    def test_no_sign_comes_first(self):
        bad = self.course[0][:2] + (77,) + self.course[0][3:]
        for sign in ((0, 0, 3), (0, 0, -1), (0, 1, 0), (0, 9, 0), (8, 0, 0), (2, 2, 0)):
            for course in ((), self.course, (bad,)):
                with self.subTest(sign=sign, course=course):
                    self.assertRaises(NoSign, fault, 3, 1, self.history, 0, sign, course)
        self.assertRaises(RestError, fault, 2, 0, (), 0, (0, 0, 0), ())

    def test_the_arguments_stay_as_they_were(self):
        before = repr((self.history, self.course))
        self.fault(self.course)
        witness(3, 1, self.history, 0, self.dead)
        self.assertEqual(repr((self.history, self.course)), before)


class NoCourse(unittest.TestCase):
    """What is gone has no witness, whichever course is tried."""

    def single_deeds(self, made, own, done):
        """Every deed by any hand that can follow and could matter to a sign of these writings."""
        known = made.histories[own] + done
        whole = plain_version(made.hands, known)
        for hand in range(made.hands):
            numbers = [deed[1] for deed in known if deed[0] == hand and deed[4][0] in WRITINGS]
            for seen in product(*[range(many + 1) for many in whole]):
                if seen[hand] != whole[hand]:
                    continue
                clock = 1 + max([d[2] for d in known if d[1] < seen[d[0]]], default=0)
                for act in (*[("toggle", number) for number in numbers], ("put", None, "x"), NOTE):
                    deed = (hand, seen[hand], clock, seen, act)
                    if plain_follows(made.hands, made.bound, made.histories[own], own, done, deed):
                        yield deed

    def gone_signs(self, made, own):
        order = plain_order(made.histories[own])
        return [s for s in order if is_gone(made.hands, made.bound, made.histories[own], own, s)]

    def check_refused(self, made, own, sign, done):
        """No deed that refers to the sign can follow behind these, and they do not show it."""
        self.assertEqual(fault_of(made, own, sign, done), ("needless",))
        known = made.histories[own] + done
        whole = plain_version(made.hands, known)
        for hand in range(made.hands):
            for seen in product(*[range(many + 1) for many in whole]):
                if seen[hand] == whole[hand]:
                    clock = 1 + max([d[2] for d in known if d[1] < seen[d[0]]], default=0)
                    for act in (("put", sign, "x"), ("cut", (sign,)), ("mark", sign, sign, "b")):
                        deed = (hand, seen[hand], clock, seen, act)
                        self.assertEqual(fault_of(made, own, sign, done + (deed,)), ("deed", len(done)))

    def test_short_courses_of_all_kinds(self):
        tried = 0
        for made in random_texts(60, 22):
            for own in range(made.hands) if made.hands < 4 else ():
                for sign in self.gone_signs(made, own)[:2]:
                    self.check_refused(made, own, sign, ())
                    for deed in list(self.single_deeds(made, own, ()))[::2]:
                        self.check_refused(made, own, sign, (deed,))
                        tried += 1
        self.assertGreater(tried, 100)

    def random_course(self, source, made, own):
        """Deeds by any hand that has heard anything it can have heard, and more or less of the rest."""
        done = ()
        for _ in range(8):
            hand = source.randrange(made.hands)
            deeds = list(self.single_deeds_of(made, own, done, hand))
            if deeds:
                done += (source.choice(deeds),)
        return done

    def single_deeds_of(self, made, own, done, hand):
        known = made.histories[own] + done
        source = random.Random(len(known))
        for deed in self.single_deeds(made, own, done):
            if deed[0] == hand and deed[4] == NOTE:
                before = tuple([d for d in known if d[1] < deed[3][d[0]]])
                act = random_act(source, before, made.bound, hand)
                yield deed[:4] + (act,)

    def test_long_courses_at_random(self):
        source, tried = random.Random(5), 0
        for made in random_texts(24, 30):
            for own in range(made.hands):
                lost = self.gone_signs(made, own)
                if lost and made.hands < 4:
                    course = self.random_course(source, made, own)
                    tried += len(course)
                    for sign in lost:
                        self.assertEqual(fault_of(made, own, sign, course), ("needless",))
        self.assertGreater(tried, 30)


class AllFaults(unittest.TestCase):
    def changed(self, source, deed, hands):
        """The deed with one part changed a little."""
        hand, number, clock, seen, act = deed
        place, by = source.randrange(hands), source.choice((-1, 1))
        other = tuple([many + by if at == place else many for at, many in enumerate(seen)])
        return source.choice((
            (hand, number + by, clock, seen, act),
            (hand, number, clock + by, seen, act),
            (hand, number, clock, other, act),
            ((hand + 1) % hands, number, clock, seen, act),
            (hand, number, clock, seen, ("toggle", source.randrange(8))),
        ))

    def test_they_are_what_the_document_says(self):
        source, answers = random.Random(13), []
        for made in random_texts(40, 45):
            for own, history in enumerate(made.histories):
                order = plain_order(history)
                for sign in order[:8]:
                    course = witness_of(made, own, sign) or ()
                    if course:
                        at = source.randrange(len(course))
                        bad = self.changed(source, course[at], made.hands)
                        course = course[:at] + (bad,) + course[at + 1:]
                    other = source.choice(order)
                    expected = plain_fault(made.hands, made.bound, history, own, other, course)
                    self.assertEqual(fault_of(made, own, other, course), expected)
                    answers.append(expected)
        for kind in (None, ("needless",), ("deed", 0)):
            self.assertGreater(answers.count(kind), 20, kind)


if __name__ == "__main__":
    unittest.main()
