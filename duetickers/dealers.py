"""Dealers: shares that are dealt anew to who won."""

from duetickers.checks import MOST_PART, integer_in, is_within, items_of, need_within
from duetickers.errors import BadDealer, BadText, TooMany
from duetickers.factors import MOST_FACTORS, are_pairs, sum_of_all
from duetickers.ratios import reduced

MOST_WINS = 1000000
# In the text of a dealer each place has a share of two items, its wins, and `/` between it and the next one.
ITEMS_OF_PLACE = 4


class Dealer:
    """First shares, and how often each of them won: it changes."""

    def __init__(self, shares):
        if not are_pairs(shares) or not have_room(shares):
            raise BadDealer("shares")
        self.shares = tuple([reduced(*share) for share in shares])
        self.wins = (0,) * len(shares)

    def __eq__(self, other):
        return isinstance(other, Dealer) and self.shares == other.shares and self.wins == other.wins

    def __str__(self):
        return " / ".join([f"{up} {down} {often}" for (up, down), often in zip(self.shares, self.wins)])

    def won(self, place):
        """The place wins; how often it won then."""
        need_within(place, 0, len(self.wins) - 1, "place")
        many = self.wins[place] + 1
        if many > MOST_WINS:
            raise TooMany("wins", MOST_WINS)
        self.wins = self.wins[:place] + (many,) + self.wins[place + 1:]
        return many

    def shares_now(self):
        """The shares as they are dealt anew to who won."""
        total = sum(self.wins)
        if total == 0:
            return self.shares
        return tuple([reduced(up * total + often * down, 2 * down * total)
                      for (up, down), often in zip(self.shares, self.wins)])

    def factors_now(self):
        """1 by the shares now."""
        return tuple([(down, up) for up, down in self.shares_now()])

    def copy(self):
        """A dealer equal to this one, that goes on by itself."""
        return dealer_with(self.shares, self.wins)

    @staticmethod
    def read(text):
        """The dealer with this text."""
        items = items_of(text)
        at = misfit_at(items)
        if at is not None:
            raise BadText(0, at)
        wins = [int(item) for item in items[2::ITEMS_OF_PLACE]]
        return dealer_with(shares_in(items), wins)


def have_room(shares):
    """Whether the shares, pairs of integers above 0, sum to at most 1."""
    up, down = sum_of_all([(down, up) for up, down in shares])
    return up <= down


def dealer_with(shares, wins):
    """The dealer with these first shares and wins."""
    dealer = Dealer(shares)
    dealer.wins = tuple(wins)
    return dealer


def shares_in(items):
    """The first shares that these items of a text tell."""
    return [(int(up), int(down)) for up, down in zip(items[::ITEMS_OF_PLACE], items[1::ITEMS_OF_PLACE])]


def misfit_at(items):
    """The index of the first item that cannot stand or is missing in the text of a dealer; None if all is right."""
    for at in range(len(items)):
        if not can_stand_at(items, at):
            return at
    return None if len(items) % ITEMS_OF_PLACE == ITEMS_OF_PLACE - 1 else len(items)


def can_stand_at(items, at):
    """Whether the item with this index can stand, if those ahead of it can."""
    number = integer_in(items[at])
    kind = at % ITEMS_OF_PLACE
    if kind == 0:
        return is_within(number, 1, MOST_PART)
    if kind == 1:
        return is_within(number, 1, MOST_PART) and is_share_at(items, at)
    if kind == 2:
        return is_within(number, 0, MOST_WINS)
    return items[at] == "/" and at < ITEMS_OF_PLACE * MOST_FACTORS - 1


def is_share_at(items, at):
    """Whether the share that ends with this item is reduced, and all up to it sum to at most 1."""
    shares = shares_in(items[:at + 1])
    up, down = shares[-1]
    return reduced(up, down) == (up, down) and have_room(shares)
