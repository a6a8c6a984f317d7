"""Set-ups for the tests, the plans of which there are 27, and what is no number."""

from itertools import product

from manymakers.setups import Plan, Setup

BACK = ("trust", "hold", "refuse")
FULL = ("wrap", "borrow", "refuse")
RESTART = ("forget", "saved", "wait")
ALL_WORDS = tuple(product(BACK, FULL, RESTART))
NO_NUMBERS = (
    (), (0,), (0, 0), (0, 0, 0, 0), [0, 0, 0], "000", b"\x00\x00\x00", None, 0, 7, True, {},
    (-1, 0, 0), (0, -1, 0), (0, 0, -1), (True, 0, 0), (0, True, 0), (0, 0, True), (False, 0, 0), (0, 0, False),
    (None, 0, 0), (0, None, 0), (0, 0, None), ("0", 0, 0), (0, "", 0), (0, 0, (0,)), (0, (), 0), ((0, 0, 0),),
)


def one_maker(words, top=2, limit=1, back=2, ahead=2, mark=3):
    return Setup((Plan(*words),), (mark,), top, limit, back, ahead)


def two_makers(one, other, marks=(1, 3), top=2, limit=1, back=2, ahead=2):
    return Setup((Plan(*one), Plan(*other)), marks, top, limit, back, ahead)


def states(words, top, limit):
    """Return all that point 7 lets stand for one maker, written out from its words."""
    return [
        (reading, last, counter, saved)
        for reading in range(top + 1)
        for last in range(-1, top + 1)
        for counter in (range(limit + 1) if last >= 0 else (0,))
        for saved in (range(-1, top + 1) if words[2] != "forget" else (-1,))
    ]
