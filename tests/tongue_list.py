"""Tongues that several tests use, and slow ways to the programs of a tongue."""

from itertools import product

from duetickers.names import judged_lengths
from duetickers.tongues import Tongue

WORDS = ("say", "up", "down", "swap", "add", "times", "skip", "end")
PLAIN = Tongue(["000", "001", "010", "011", "100", "101", "110", "111"])
SHORT = Tongue(("00", "01", "100", "101", "1100", "1101", "1110", "1111"))
TURNED = Tongue(["111", "110", "101", "100", "011", "010", "001", "000"])
SPARSE = Tongue(["0001", "0010", "0011", "0100", "0101", "0110", "0111", "0000"])
QUICK = Tongue(["00", "01", "1100", "100", "101", "1101", "1110", "1111"])
LONG = Tongue([f"{number:08b}" for number in range(8)])
STEEP = Tongue(["0", "10", "110", "1110", "11110", "111110", "1111110", "1111111"])
EARLY = Tongue(["10000001", "10100", "1100", "111", "1101", "10001", "1001", "0"])
ALL = (PLAIN, SHORT, TURNED, SPARSE, QUICK, LONG, STEEP, EARLY)


def of_lengths(lengths):
    """A tongue whose names have these lengths."""
    return Tongue(judged_lengths(lengths).names)


def slow_program(tongue, text):
    """The program with this text, read name by name; None if there is none."""
    words = []
    while text:
        word = next((word for word, name in zip(WORDS, tongue.names) if text.startswith(name)), None)
        if word is None:
            return None
        text = text[len(tongue.names[WORDS.index(word)]):]
        if word == "end":
            return tuple(words) if not text else None
        words.append(word)
    return None


def slow_programs(tongue, length):
    """All programs of this length, in their order, by all texts."""
    found = [slow_program(tongue, "".join(signs)) for signs in product("01", repeat=length)]
    return tuple(program for program in found if program is not None)


def texts_within(tongue, most):
    """The texts of all programs of at most so many signs, each with its program, by adding word to word."""
    found, begun = {}, [("", ())]
    while begun:
        text, program = begun.pop()
        for word, name in zip(WORDS, tongue.names):
            if len(text + name) > most:
                continue
            if word == "end":
                found[text + name] = program
            else:
                begun.append((text + name, program + (word,)))
    return found


def slow_steps(tongue, most):
    """All steps of all programs due by 2 ** most, as pairs, by one sorted list of dues, lengths and texts."""
    dues = sorted((step << len(text), len(text), text, step, program)
                  for text, program in texts_within(tongue, most).items()
                  for step in range(1, (1 << most - len(text)) + 1))
    return [(program, step) for due, length, text, step, program in dues]
