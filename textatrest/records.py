"""Deeds as text: the written form, and what is read from it."""

from textatrest.acts import is_act

DIGITS = "0123456789"
DIGITS_MOST = 4


def write_deed(deed):
    """The written form of the deed."""
    hand, number, clock, seen, act = deed
    numbers = [hand, number, clock, *seen]
    return " ".join([str(one) for one in numbers] + act_parts(act))


def read_deed(hands, text):
    """The deed of which this is the written form, or None if there is none with so many hands."""
    many = 3 + hands
    # What is behind the numbers is split no further, since a run may have spaces.
    parts = text.split(" ", many)
    numbers = [read_number(part) for part in parts[:many]]
    if len(parts) <= many or None in numbers:
        return None
    hand, number, clock, *seen = numbers
    act = read_act(parts[many])
    if hand >= hands or act is None or not is_act(act):
        return None
    return (hand, number, clock, tuple(seen), act)


def act_parts(act):
    """The list of the parts of the written form of an act."""
    word = act[0]
    if word == "put":
        return [word, write_place(act[1]), quoted(act[2])]
    if word == "cut":
        return [word] + [write_sign(sign) for sign in act[1]]
    if word == "mark":
        return [word, write_sign(act[1]), write_sign(act[2]), quoted(act[3])]
    if word == "toggle":
        return [word, str(act[1])]
    return [word]


def write_sign(sign):
    """The written form of a sign."""
    return ":".join([str(part) for part in sign])


def write_place(after):
    """The written form of the sign after which a run is written, or of None."""
    return "none" if after is None else write_sign(after)


def quoted(text):
    """The text between double quotes."""
    return '"' + text + '"'


def read_act(text):
    """The act of which this is the written form, or None; whether it is within its bounds is not asked."""
    word, _, rest = text.partition(" ")
    if word == "put":
        return read_put(rest)
    if word == "cut":
        return read_cut(rest)
    if word == "mark":
        return read_mark(rest)
    if word == "toggle":
        number = read_number(rest)
        return None if number is None else (word, number)
    return (text,) if text in ("note", "leave") else None


def read_put(rest):
    """The put with these parts, or None."""
    place, _, run = rest.partition(" ")
    after, text = read_sign(place), read_quoted(run)
    if text is None or (after is None and place != "none"):
        return None
    return ("put", after, text)


def read_cut(rest):
    """The cut with these parts, or None."""
    signs = [read_sign(part) for part in rest.split(" ")]
    return None if None in signs else ("cut", tuple(signs))


def read_mark(rest):
    """The mark with these parts, or None."""
    parts = rest.split(" ")
    if len(parts) != 3:
        return None
    first, last, value = read_sign(parts[0]), read_sign(parts[1]), read_quoted(parts[2])
    if first is None or last is None or value is None:
        return None
    return ("mark", first, last, value)


def read_sign(text):
    """The sign of which this is the written form, or None."""
    numbers = [read_number(part) for part in text.split(":")]
    return None if len(numbers) != 3 or None in numbers else tuple(numbers)


def read_quoted(text):
    """The text that stands between double quotes, or None."""
    inner = text[1:-1]
    return None if '"' in inner or text != quoted(inner) else inner


def read_number(text):
    """The number of which this is the written form, or None if it has too many digits or is none."""
    if not 1 <= len(text) <= DIGITS_MOST or not all([letter in DIGITS for letter in text]):
        return None
    return None if text != str(int(text)) else int(text)
