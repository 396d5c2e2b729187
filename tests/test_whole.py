"""The whole program: drawn courses of links, whose letters and power fail (points 1, 15, 21, 30, 31 and 33)."""

import random
import unittest

from handling import next_deed_of
from making import (
    plain_dead, plain_gone, plain_left, plain_order, plain_shown, plain_signs_of, plain_version, random_act,
)
from textatrest.errors import LogFull, NotOpen, PowerCut
from textatrest.histories import shown, text
from textatrest.link import Link
from textatrest.throwing import fault, is_gone, kept, witness

NOTE = ("note",)
WORDS = (
    ["do"] * 9 + ["send"] * 7 + ["deliver"] * 8 + ["drop", "duplicate", "duplicate", "sync"]
    + ["cut", "schedule", "schedule", "reopen", "reopen", "reopen"]
)


class Drawn:
    """A link, what was done with it, and what must stay so."""

    def __init__(self, test, seed, blocks=400):
        self.test = test
        self.source = random.Random(seed)
        self.hands = 2 + seed % 3
        self.bound = seed % 5
        self.link = Link(self.hands, self.bound, blocks)
        # Each deed that was ever given to others, by its name.
        self.given = {}
        # For each hand the deeds that it gave to others, and the signs that are gone since it was opened.
        self.given_by = [{} for _ in range(self.hands)]
        self.gone = [{} for _ in range(self.hands)]
        # Who is about to take what; and what each house was about to take when its power was cut.
        self.trying = (0, ())
        self.half_taken = [() for _ in range(self.hands)]
        self.counts = {}

    def count(self, word, many=1):
        self.counts[word] = self.counts.get(word, 0) + many

    def history(self, hand):
        return self.link.histories()[hand]

    def torn(self):
        if self.source.random() < 0.4:
            return [32] * 60
        return [self.source.choice((0, 1, 13, 31, 32, 32, 32)) for _ in range(self.source.randint(0, 9))]

    def step(self):
        hand, word = self.source.randrange(self.hands), self.source.choice(WORDS)
        before = self.link.histories()
        self.trying = (hand, ())
        try:
            getattr(self, word)(hand)
            self.count(word)
        except NotOpen:
            self.test.assertIs(self.link.is_open(hand), False)
            self.count("not open")
        except PowerCut:
            self.count("power cut")
            self.half_taken[self.trying[0]] += self.trying[1]
            self.test.assertEqual(self.link.histories(), before)
        except LogFull:
            self.count("full")
            self.test.assertEqual(self.link.histories(), before)
        self.check()

    def do(self, hand):
        history = self.history(hand)
        if plain_left(history, hand):
            return
        leaves = self.source.random() < 0.01
        act = ("leave",) if leaves else random_act(self.source, history, self.bound, hand)
        expected = next_deed_of(self.hands, history, hand, act)
        self.trying = (hand, (expected,))
        self.test.assertEqual(self.link.do(hand, act), expected)
        self.test.assertEqual(self.history(hand), history + (expected,))

    def send(self, hand):
        to = self.source.choice([other for other in range(self.hands) if other != hand])
        before = self.link.letters()
        if not self.link.send(hand, to):
            self.test.assertEqual(self.link.letters(), before)
            return
        self.test.assertEqual(self.link.letters()[:-1], before)
        letter = self.link.letters()[-1]
        self.test.assertEqual(letter[0], to)
        for deed in letter[1]:
            self.test.assertEqual(self.given.setdefault(deed[:2], deed), deed)
            self.given_by[hand][deed] = True

    def deliver(self, hand):
        letters = self.link.letters()
        if not letters:
            return
        at = self.source.randrange(len(letters))
        to, deeds = letters[at]
        was_open, before = self.link.is_open(to), self.link.histories()
        gone = [sign for sign in plain_order(before[to]) if self.is_gone(to, before[to], sign)]
        new = tuple([deed for deed in deeds if deed not in before[to]])
        self.trying = (to, new)
        try:
            taken = self.link.deliver(at)
        finally:
            self.test.assertEqual(self.link.letters(), letters[:at] + letters[at + 1:])
        if not was_open:
            self.count("lost letter")
            new = ()
        # A letter has all that is needed by what the other one did not acknowledge, so that nothing waits.
        self.test.assertEqual(taken, len(new))
        self.test.assertEqual(self.history(to), before[to] + new)
        for deed in new:
            self.test.assertEqual([sign for sign in plain_signs_of(deed[4]) if sign in gone], [])

    def drop(self, hand):
        if self.link.letters():
            self.link.drop(self.source.randrange(len(self.link.letters())))

    def duplicate(self, hand):
        if self.link.letters():
            self.link.duplicate(self.source.randrange(len(self.link.letters())))

    def sync(self, hand):
        self.test.assertEqual(self.link.sync(hand), len(self.history(hand)))
        for deed in self.history(hand):
            # What was flushed stays as what was given does.
            self.given_by[hand][deed] = True

    def cut(self, hand):
        before = self.link.histories()
        self.link.cut_power(hand, self.torn())
        self.test.assertIs(self.link.is_open(hand), False)
        self.test.assertEqual(self.link.histories(), before)

    def schedule(self, hand):
        self.link.schedule_cut(hand, self.source.choice((0, 1, 2, 3, 5, 400, 401, 402)), self.torn())

    def reopen(self, hand):
        before = self.history(hand)
        many = self.link.reopen(hand)
        self.gone[hand] = {}
        self.test.assertEqual(self.history(hand), (before + self.half_taken[hand])[:many])
        self.half_taken[hand] = ()
        self.count("deeds lost", max(0, len(before) - many))
        self.count("deeds half taken", max(0, many - len(before)))

    def is_gone(self, hand, history, sign):
        return is_gone(self.hands, self.bound, history, hand, sign)

    def check(self):
        histories, letters = self.link.histories(), self.link.letters()
        names = {}
        for deeds in histories + [letter[1] for letter in letters]:
            for deed in deeds:
                self.test.assertEqual(names.setdefault(deed[:2], deed), deed)
        shows = {}
        for hand, history in enumerate(histories):
            self.test.assertEqual([deed for deed in self.given_by[hand] if deed not in history], [])
            version = plain_version(self.hands, history)
            self.test.assertEqual(shows.setdefault(version, shown(history)), shown(history))
            if self.link.is_open(hand):
                self.test.assertEqual(self.link.text(hand), text(history))
                self.test.assertEqual(self.link.kept(hand), kept(self.hands, self.bound, history, hand))
                self.check_gone(hand, history)

    def check_gone(self, hand, history):
        """What is gone once is gone for ever, as long as the house is open."""
        for sign in self.gone[hand]:
            self.test.assertTrue(self.is_gone(hand, history, sign))
        there = [sign for sign in plain_order(history) if sign not in self.gone[hand]]
        for sign in there:
            if self.is_gone(hand, history, sign):
                self.gone[hand][sign] = True
                self.count("gone")

    def check_witnesses(self):
        for hand, history in enumerate(self.link.histories()):
            remaining = kept(self.hands, self.bound, history, hand)
            for sign in plain_order(history):
                course = witness(self.hands, self.bound, history, hand, sign)
                self.test.assertIs(course is None, sign not in remaining)
                if course is not None:
                    self.test.assertIsNone(fault(self.hands, self.bound, history, hand, sign, course))
                    self.count("witness")

    def open_all(self):
        for hand in range(self.hands):
            self.link.schedule_cut(hand, 100000, [])
            if not self.link.is_open(hand):
                self.reopen(hand)

    def hear_all(self):
        """Everybody hears everything, by letters that come in any order."""
        while len({plain_version(self.hands, history) for history in self.link.histories()}) > 1:
            for hand in range(self.hands):
                for to in range(self.hands):
                    if to != hand:
                        self.link.send(hand, to)
            while self.link.letters():
                self.deliver(0)
            self.check()

    def settle(self):
        """Everybody hears everything, does a note, and hears all notes."""
        self.open_all()
        self.hear_all()
        for hand in range(self.hands):
            if not plain_left(self.history(hand), hand):
                self.link.do(hand, NOTE)
        self.hear_all()


class Whole(unittest.TestCase):
    def test_drawn_courses(self):
        counts = {}
        for seed in range(30):
            drawn = Drawn(self, seed)
            for _ in range(4):
                for _ in range(30):
                    drawn.step()
                drawn.check_witnesses()
            drawn.settle()
            self.check_settled(drawn)
            drawn.check_witnesses()
            for word, many in drawn.counts.items():
                counts[word] = counts.get(word, 0) + many
        self.assertGreater(counts["deeds half taken"], 0)
        for word in (
            *WORDS, "not open", "power cut", "lost letter", "deeds lost", "gone", "witness",
        ):
            self.assertGreater(counts[word], 10, word)

    def check_settled(self, drawn):
        """Exactly the signs that are dead are gone everywhere, and everybody shows the same."""
        histories = drawn.link.histories()
        order = plain_order(histories[0])
        living = [sign for sign in order if not plain_dead(histories[0], drawn.bound, sign)]
        rows = plain_shown(histories[0])
        for hand in range(drawn.hands):
            self.assertEqual(drawn.link.kept(hand), living)
            self.assertEqual(drawn.link.text(hand), "".join([row[1] for row in rows]))
            self.assertEqual(shown(histories[hand]), rows)
            for sign in order:
                self.assertIs(drawn.is_gone(hand, histories[hand], sign), sign not in living)

    def test_drawn_courses_on_small_disks(self):
        full = 0
        for seed in range(12):
            drawn = Drawn(self, seed, 8 + seed)
            for _ in range(120):
                drawn.step()
            drawn.check_witnesses()
            full += drawn.counts.get("full", 0)
        self.assertGreater(full, 50)

    def test_kept_is_what_the_document_says(self):
        for seed in range(100, 106):
            drawn = Drawn(self, seed)
            for _ in range(80):
                drawn.step()
            for hand, history in enumerate(drawn.link.histories()):
                expected = [
                    sign for sign in plain_order(history)
                    if not plain_gone(drawn.hands, drawn.bound, history, hand, sign)
                ]
                self.assertEqual(kept(drawn.hands, drawn.bound, history, hand), expected)

    def test_the_same_course_again_gives_the_same(self):
        for seed in range(4):
            one, other = Drawn(self, seed), Drawn(self, seed)
            for _ in range(60):
                one.step()
            for _ in range(60):
                other.step()
            self.assertEqual(one.link.histories(), other.link.histories())
            self.assertEqual(one.link.letters(), other.link.letters())
            self.assertEqual(one.counts, other.counts)

    def test_runs_that_are_written_at_the_same_place_are_not_mixed(self):
        link = Link(4, 2, 60)
        put = link.do(0, ("put", None, "()"))
        for to in (1, 2, 3):
            link.send(0, to)
        while link.letters():
            link.deliver(0)
        after = (put[0], put[1], 0)
        for hand in range(4):
            run = "abcd"[hand]
            first = link.do(hand, ("put", after, run * 2))
            link.do(hand, ("put", (hand, first[1], 1), run * 3))
        for hand in range(4):
            for to in {0, 1, 2, 3} - {hand}:
                link.send(hand, to)
        while link.letters():
            link.deliver(len(link.letters()) - 1)
        texts = [link.text(hand) for hand in range(4)]
        self.assertEqual(texts, ["(" + "ddddd" + "ccccc" + "bbbbb" + "aaaaa" + ")"] * 4)


if __name__ == "__main__":
    unittest.main()
