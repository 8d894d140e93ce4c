"""The programs of a tongue in their order: how many there are, and which one has which number."""

from duetickers.checks import need_within
from duetickers.errors import Misfit, TooMany
from duetickers.programs import length_of, names_in
from duetickers.tongues import Tongue, need_tongue

MOST_LENGTH = 400
MOST_LISTED_LENGTH = 40
MOST_NUMBER = 10 ** 30
MOST_PROGRAMS = 2000


def counts_to(tongue, most):
    """The list of how many programs have the lengths 0 to most."""
    sizes = [len(name) for name in tongue.names]
    end = sizes.pop()
    counts = []
    for length in range(most + 1):
        longer = sum([counts[length - size] for size in sizes if size <= length])
        counts.append(longer + 1 if length == end else longer)
    return counts


def ordered_words(tongue):
    """The pairs (name, word) of the tongue, in the order in which programs stand."""
    return sorted(list(zip(tongue.names, Tongue.WORDS)))


def many_behind(counts, name, word, left):
    """How many programs go on with this word, if so many signs of their texts are left."""
    rest = left - len(name)
    if word == "end":
        return 1 if rest == 0 else 0
    return counts[rest] if rest > 0 else 0


def next_word(ordered, counts, left, rank):
    """The name and the word with which the program behind rank others goes on, and its rank among those with it."""
    many = [many_behind(counts, name, word, left) for name, word in ordered]
    place = 0
    while rank >= many[place]:
        rank -= many[place]
        place += 1
    name, word = ordered[place]
    return (name, word, rank)


def ranked_program(ordered, counts, length, rank):
    """The program of this length that is behind rank others of it."""
    words = []
    left = length
    while left > 0:
        name, word, rank = next_word(ordered, counts, left, rank)
        words.append(word)
        left -= len(name)
    return tuple(words[:-1])


def numbered_program(ordered, counts, number):
    """The program with this number, of a length that counts still has."""
    length = 0
    while number >= counts[length]:
        number -= counts[length]
        length += 1
    return ranked_program(ordered, counts, length, number)


def rank_of(tongue, counts, program):
    """How many programs of its length stand ahead of the program, if counts goes as far as its length."""
    ordered = ordered_words(tongue)
    names = names_in(tongue, program)
    left = len("".join(names))
    rank = 0
    for own in names:
        rank += sum([many_behind(counts, name, word, left) for name, word in ordered if name < own])
        left -= len(own)
    return rank


def how_many(tongue, length):
    """How many programs have this length."""
    need_tongue(tongue)
    need_within(length, 0, MOST_LENGTH, "length")
    return counts_to(tongue, length)[length]


def program_at(tongue, number):
    """The program with this number."""
    need_tongue(tongue)
    need_within(number, 0, MOST_NUMBER, "number")
    return numbered_program(ordered_words(tongue), counts_to(tongue, MOST_LENGTH), number)


def number_of(tongue, program):
    """The number of the program."""
    left = length_of(tongue, program)
    if left > MOST_LENGTH:
        raise Misfit("program")
    counts = counts_to(tongue, left)
    return sum(counts[:left]) + rank_of(tongue, counts, program)


def programs_of(tongue, length):
    """All programs of a length, in their order."""
    need_tongue(tongue)
    need_within(length, 0, MOST_LISTED_LENGTH, "length")
    counts = counts_to(tongue, length)
    if counts[length] > MOST_PROGRAMS:
        raise TooMany("programs", MOST_PROGRAMS)
    ordered = ordered_words(tongue)
    return tuple([ranked_program(ordered, counts, length, rank) for rank in range(counts[length])])


def first_programs(tongue, many):
    """The programs numbered from 0 to many less 1, in their order."""
    need_tongue(tongue)
    need_within(many, 0, MOST_PROGRAMS, "many")
    ordered = ordered_words(tongue)
    counts = counts_to(tongue, MOST_LENGTH)
    for number in range(many):
        yield numbered_program(ordered, counts, number)
