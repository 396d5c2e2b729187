"""What the tests share: texts to test with, and the points of the document word by word.

Nothing here uses the program, and nothing here is fast: each function says one
sentence of the document, so that the answers of the program can be compared.
"""

import random
from functools import cmp_to_key

WRITINGS = ("put", "cut", "mark")


class Text:
    """Hands that do deeds and hear of each other."""

    def __init__(self, hands, bound=2):
        self.hands = hands
        self.bound = bound
        self.histories = [()] * hands

    def version(self, hand):
        return plain_version(self.hands, self.histories[hand])

    def do(self, hand, act):
        history = self.histories[hand]
        seen = self.version(hand)
        clock = 1 + max([deed[2] for deed in history], default=0)
        deed = (hand, seen[hand], clock, seen, act)
        self.histories[hand] = history + (deed,)
        return deed

    def do_all(self, hand, *acts):
        return [self.do(hand, act) for act in acts]

    def hear(self, hand, other, many=None):
        """The hand hears the first so many deeds of another one that it does not have."""
        new = [deed for deed in self.histories[other] if deed not in self.histories[hand]]
        self.histories[hand] += tuple(new[:many])

    def hear_all(self):
        for hand in range(self.hands):
            for other in range(self.hands):
                self.hear(hand, other)

    def settle(self):
        """Everybody hears everything, does a note, and hears all notes."""
        self.hear_all()
        for hand in range(self.hands):
            if not plain_left(self.histories[hand], hand):
                self.do(hand, ("note",))
        self.hear_all()


def sign_of(deed, index):
    return (deed[0], deed[1], index)


def run_signs(deed):
    return [sign_of(deed, index) for index in range(len(deed[4][2]))]


def plain_version(hands, history):
    return tuple([len([deed for deed in history if deed[0] == hand]) for hand in range(hands)])


def plain_within(history, version):
    return tuple([deed for deed in history if deed[1] < version[deed[0]]])


def plain_left(history, hand):
    return ("leave",) in [deed[4] for deed in history if deed[0] == hand]


def plain_active(history, deed):
    own = [other[4] for other in history if other[0] == deed[0]]
    return own.count(("toggle", deed[1])) % 2 == 0


def plain_final(history, bound, deed):
    behind = [other for other in history if other[0] == deed[0] and other[1] > deed[1]]
    writings = [other for other in behind if other[4][0] in WRITINGS]
    return len(writings) >= bound or ("leave",) in [other[4] for other in behind]


def plain_put(history, sign):
    for deed in history:
        if deed[:2] == sign[:2] and deed[4][0] == "put" and sign in run_signs(deed):
            return deed
    return None


def plain_cuts(history, sign):
    return [deed for deed in history if deed[4][0] == "cut" and sign in deed[4][1]]


def plain_shown_sign(history, sign):
    put = plain_put(history, sign)
    if put is None or not plain_active(history, put):
        return False
    return not any(plain_active(history, cut) for cut in plain_cuts(history, sign))


def plain_dead(history, bound, sign):
    put = plain_put(history, sign)
    if put is None:
        return False
    if plain_final(history, bound, put) and not plain_active(history, put):
        return True
    cuts = plain_cuts(history, sign)
    return any(plain_final(history, bound, cut) and plain_active(history, cut) for cut in cuts)


def plain_path(history, sign):
    put = plain_put(history, sign)
    after = put[4][1]
    ahead = () if after is None else plain_path(history, after)
    return ahead + ((put[2], put[0], sign[2]),)


def plain_before(one, other):
    if one == other:
        return False
    if one == other[:len(one)]:
        return True
    if other == one[:len(other)]:
        return False
    at = 0
    while one[at] == other[at]:
        at += 1
    (clock, hand, index), (other_clock, other_hand, other_index) = one[at], other[at]
    if (clock, hand) == (other_clock, other_hand):
        return index < other_index
    return (clock, hand) > (other_clock, other_hand)


def plain_order(history):
    paths = {}
    for deed in history:
        if deed[4][0] == "put":
            for sign in run_signs(deed):
                paths[sign] = plain_path(history, sign)

    def compare(one, other):
        return -1 if plain_before(paths[one], paths[other]) else 1

    return sorted(paths, key=cmp_to_key(compare))


def plain_value(history, order, sign):
    at = order.index(sign)
    found, latest = "", (0, 0)
    for deed in history:
        if deed[4][0] == "mark" and plain_active(history, deed):
            _, first, last, value = deed[4]
            if order.index(first) <= at <= order.index(last) and (deed[2], deed[0]) > latest:
                found, latest = value, (deed[2], deed[0])
    return found


def plain_shown(history):
    order = plain_order(history)
    rows = []
    for sign in order:
        if plain_shown_sign(history, sign):
            character = plain_put(history, sign)[4][2][sign[2]]
            rows.append((sign, character, plain_value(history, order, sign)))
    return rows


def plain_signs_of(act):
    if act[0] == "put":
        return [] if act[1] is None else [act[1]]
    if act[0] == "cut":
        return list(act[1])
    return [act[1], act[2]] if act[0] == "mark" else []


def plain_allowed(history, bound, deed):
    hand, act = deed[0], deed[4]
    before = plain_within(history, deed[3])
    if plain_left(before, hand):
        return False
    for sign in plain_signs_of(act):
        if plain_put(before, sign) is None or plain_dead(before, bound, sign):
            return False
    if act[0] == "mark":
        return not plain_before(plain_path(before, act[2]), plain_path(before, act[1]))
    if act[0] == "toggle":
        own = [other for other in before if other[:2] == (hand, act[1])]
        return own != [] and own[0][4][0] in WRITINGS and not plain_final(before, bound, own[0])
    return True


def plain_acknowledged(hands, history, own, hand):
    if hand == own:
        return plain_version(hands, history)
    theirs = [deed for deed in history if deed[0] == hand]
    if not theirs:
        return (0,) * hands
    seen = list(theirs[-1][3])
    seen[hand] += 1
    return tuple(seen)


def plain_gone(hands, bound, history, own, sign):
    if not plain_dead(history, bound, sign):
        return False
    for hand in range(hands):
        version = plain_acknowledged(hands, history, own, hand)
        if not plain_left(history, hand) and not plain_dead(plain_within(history, version), bound, sign):
            return False
    return True


def plain_follows(hands, bound, history, own, done, deed):
    """Whether a deed of known hands, numbers and bounds can follow behind those that are done."""
    hand, number, clock, seen, act = deed
    known = history + done
    there = plain_version(hands, known)
    needed = [plain_acknowledged(hands, history, own, hand)]
    for other in done:
        if other[0] == hand:
            needed += [other[3], tuple([other[1] + 1 if at == hand else 0 for at in range(hands)])]
    included = plain_within(known, seen)
    return (
        number == there[hand] == seen[hand]
        and all(mine <= whole for mine, whole in zip(seen, there))
        and all(mine >= least for version in needed for mine, least in zip(seen, version))
        and all(mine >= other[3][at] for other in included for at, mine in enumerate(seen))
        and clock == 1 + max([other[2] for other in included], default=0)
        and plain_allowed(known, bound, deed)
    )


def plain_fault(hands, bound, history, own, sign, course):
    for k, deed in enumerate(course):
        if not plain_follows(hands, bound, history, own, course[:k], deed):
            return ("deed", k)
    referred = any(sign in plain_signs_of(deed[4]) for deed in course)
    return None if referred or plain_shown_sign(history + course, sign) else ("needless",)


def plain_hear(number, history, waiting, deeds):
    """What the hand takes, has, and lets wait behind it, if it hears the deeds (point 14)."""
    waiting, taken = list(waiting), []
    for deed in deeds:
        if deed not in history and deed not in waiting and deed[0] != number:
            waiting.append(deed)
    while True:
        version = [len([deed for deed in history if deed[0] == hand]) for hand in range(4)]
        ready = [deed for deed in waiting if all(mine <= has for mine, has in zip(deed[3], version))]
        if not ready:
            return taken, history, sorted(waiting, key=plain_time)
        earliest = min(ready, key=plain_time)
        waiting.remove(earliest)
        taken.append(earliest)
        history = history + (earliest,)


def plain_time(deed):
    return (deed[2], deed[0])


def plain_news(hands, history, own, hand):
    """Point 16."""
    known = plain_acknowledged(hands, history, own, hand)
    return tuple(sorted([deed for deed in history if deed[1] >= known[deed[0]]], key=plain_time))


def random_act(source, history, bound, hand):
    """Any act that the hand can do now, but a leave."""
    live = [sign for sign in plain_order(history) if not plain_dead(history, bound, sign)]
    own = [deed for deed in history if deed[0] == hand and deed[4][0] in WRITINGS]
    open_writings = [deed for deed in own if not plain_final(history, bound, deed)]
    word = source.choice(("put", "put", "put", "cut", "cut", "mark", "toggle", "toggle", "note"))
    if word == "toggle" and open_writings:
        return ("toggle", source.choice(open_writings)[1])
    if word == "cut" and live:
        return ("cut", tuple(sorted(source.sample(live, source.randint(1, min(3, len(live)))))))
    if word == "mark" and live:
        ends = sorted([source.randrange(len(live)), source.randrange(len(live))])
        return ("mark", live[ends[0]], live[ends[1]], source.choice(("", "a", "b", "cd")))
    if word == "put":
        text = "".join([source.choice("abcdefgh") for _ in range(source.randint(1, 3))])
        return ("put", source.choice(live + [None]), text)
    return ("note",)


def random_step(source, text):
    """One hand does a deed, or hears some deeds of another one."""
    hand = source.randrange(text.hands)
    other = source.randrange(text.hands)
    if hand != other and source.random() < 0.5:
        text.hear(hand, other, source.choice((1, 2, None, None)))
    elif not plain_left(text.histories[hand], hand):
        leaves = source.random() < 0.02
        act = ("leave",) if leaves else random_act(source, text.histories[hand], text.bound, hand)
        text.do(hand, act)


def random_texts(many, steps):
    """Texts with 2 to 4 hands and bounds from 0 to 4, each with what so many random steps left."""
    found = []
    for seed in range(many):
        source = random.Random(seed)
        text = Text(2 + seed % 3, seed % 5)
        for _ in range(steps):
            random_step(source, text)
        found.append(text)
    return found


def other_order(source, history):
    """The same deeds in another order in which each comes after all that it knows."""
    left, found = list(history), []
    while left:
        ready = [
            deed for deed in left
            if not any(other[1] < deed[3][other[0]] for other in left)
        ]
        taken = source.choice(ready)
        left.remove(taken)
        found.append(taken)
    return tuple(found)
