"""Tongues: names for the eight words, none of which begins another one."""

from duetickers.checks import is_row, is_signs, items_of
from duetickers.errors import BadName, BadText, BadTongue
from duetickers.names import are_apart

MANY_WORDS = 8
MOST_NAME = 8


class Tongue:
    """A name of 1 to 8 signs for each of the eight words, in their order."""

    WORDS = ("say", "up", "down", "swap", "add", "times", "skip", "end")

    def __init__(self, names):
        if not is_row(names, MANY_WORDS, MANY_WORDS) or place_of_misfit(names) is not None:
            raise BadTongue("names")
        self.names = tuple(names)

    def __eq__(self, other):
        return isinstance(other, Tongue) and self.names == other.names

    def __str__(self):
        return " ".join(self.names)

    def name_of(self, word):
        """The name of a word."""
        if not isinstance(word, str) or word not in Tongue.WORDS:
            raise BadName("word")
        return self.names[Tongue.WORDS.index(word)]

    @staticmethod
    def read(text):
        """The tongue with this text."""
        items = items_of(text)
        place = place_of_misfit(items)
        if place is not None:
            raise BadText(0, place)
        if len(items) < MANY_WORDS:
            raise BadText(0, len(items))
        return Tongue(items)


def place_of_misfit(names):
    """The place of the first one that cannot stand in a tongue behind those ahead; None if all can."""
    for place, name in enumerate(names):
        if place >= MANY_WORDS or not is_signs(name, 1, MOST_NAME) or not are_apart(names[:place + 1]):
            return place
    return None


def need_tongue(tongue):
    """Raise an error unless tongue is a Tongue."""
    if not isinstance(tongue, Tongue):
        raise BadTongue("tongue")
