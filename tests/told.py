"""What the tests share: the error that a call raises, odd values, and a bound in time."""

import time

FIELDS = ("part", "what", "most", "line", "item")


def error_of(call, *given, **named):
    """The name of the class of the error that the call raises, and its fields; None without one."""
    try:
        call(*given, **named)
    except Exception as error:
        fields = [getattr(error, field) for field in FIELDS if hasattr(error, field)]
        return (type(error).__name__, *fields)
    return None


def seconds_of(call, *given):
    """How many seconds the call takes."""
    start = time.perf_counter()
    call(*given)
    return time.perf_counter() - start


class Odd:
    """A value that is equal to every other one."""

    def __eq__(self, other):
        return True

    def __hash__(self):
        return 0


NO_LISTS = (None, True, 0, 1.5, "", "0", "01", b"01", {}, {"0": 1}, {"0"}, frozenset(), range(0), iter([]), object(), Odd())
NO_STRINGS = (None, True, False, 0, 1, 1.5, b"", b"0", b"01", [], ["0"], ("0",), {}, {"0": 1}, {"0"}, object(), Odd())
NO_INTEGERS = (None, True, False, 1.0, 2.5, "", "1", b"1", [], [1], (1,), {}, {1}, {1: 1}, object(), Odd(), 1j)
