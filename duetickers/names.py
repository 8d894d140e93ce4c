"""Names: texts of signs, and when none of them begins another one."""

from duetickers.checks import MOST_SIGNS, is_name, is_row, is_signs, is_within
from duetickers.errors import BadName, BadNumber, Misfit
from duetickers.papers import Denial, Paper
from duetickers.ratios import reduced

MOST_NAMES = 200
MOST_TEXT = 2000


class Names(Paper):
    """Names that are apart, in the order of the lengths that were asked for."""

    def __init__(self, names):
        Paper.__init__(self, "names", names)
        self.names = self.parts[0]


class Crowded(Denial):
    """The sum of the shares of some lengths, up / down, which is above 1."""

    def __init__(self, up, down):
        Denial.__init__(self, "crowded", up, down)
        self.up, self.down = self.parts


def need_names(names):
    """Raise an error unless names is a list of 0 to 200 names."""
    if not is_row(names, 0, MOST_NAMES) or not all([is_name(name) for name in names]):
        raise BadName("names")


def need_apart(names):
    """Raise an error unless names is a list of names that are apart."""
    if not are_apart(names):
        raise Misfit("names")


def need_lengths(lengths):
    """Raise an error unless lengths is a list of 0 to 200 lengths of names."""
    if not is_row(lengths, 0, MOST_NAMES) or not all([is_within(length, 1, MOST_SIGNS) for length in lengths]):
        raise BadNumber("lengths")


def are_apart(names):
    """Whether none of the names begins another one of them."""
    need_names(names)
    # Behind a name, in their order, first stand all that it begins: so neighbours tell.
    ordered = sorted(names)
    return not any([ordered[place].startswith(ordered[place - 1]) for place in range(1, len(ordered))])


def sum_of_shares(lengths):
    """The sum of the shares of names of these lengths, a fraction."""
    return reduced(sum([1 << (MOST_SIGNS - length) for length in lengths]), 1 << MOST_SIGNS)


def share_of(names):
    """The share of the names, a fraction."""
    need_names(names)
    return sum_of_shares([len(name) for name in names])


def free_names(names):
    """The fewest names with which the names are full, ascending."""
    need_apart(names)
    # Without names, too, the empty text is gone on from.
    begun = {"": True}
    for name in names:
        for length in range(len(name)):
            begun[name[:length]] = True
    whole = {name: True for name in names}
    longer = [text + sign for text in begun for sign in ("0", "1")]
    return tuple(sorted([text for text in longer if text not in begun and text not in whole]))


def cut_text(names, text):
    """The places of the names of which the text is put together; None if it is not."""
    need_names(names)
    if not is_signs(text, 0, MOST_TEXT):
        raise BadName("text")
    need_apart(names)
    places = {name: place for place, name in enumerate(names)}
    found = []
    start = 0
    while start < len(text):
        name = name_at(text, start, places)
        if name is None:
            return None
        found.append(places[name])
        start += len(name)
    return tuple(found)


def name_at(text, start, places):
    """The key of places that begins what is left of the text behind start; None if none does."""
    for length in range(1, MOST_SIGNS + 1):
        piece = text[start:start + length]
        if piece in places:
            return piece
    return None


def judged_lengths(lengths):
    """The Names given for the lengths; the Crowded of the sum of their shares if it is above 1."""
    need_lengths(lengths)
    up, down = sum_of_shares(lengths)
    if up > down:
        return Crowded(up, down)
    return Names(given_names(lengths))


def given_names(lengths):
    """The list of the names given for the lengths, whose shares sum to at most 1."""
    names = [""] * len(lengths)
    # The names given so far begin just the first ones of all texts of 60 signs: so many.
    begun = 0
    for length, place in sorted([(length, place) for place, length in enumerate(lengths)]):
        names[place] = sign_text(begun >> (MOST_SIGNS - length), length)
        begun += 1 << (MOST_SIGNS - length)
    return names


def sign_text(number, length):
    """The text of so many signs that stands at this number among all of them."""
    return f"{number:b}".zfill(length)
