"""Calls as they are told to the program, and answers parted again, call by call."""

from fractions import Fraction

from bestwishes.wishes import answers

WORKED = (
    "measures price down, size up ; item a : 10, 5 ; item b : 8, 3 ;"
    " item c : 12, 9 ; item d : 12, 5 ; item e : 8, 3 ;"
)


def load(text):
    row = list(text.encode("latin-1") if isinstance(text, str) else text)
    return [0, len(row)] + row


def bound(m, lo, hi):
    return [1, m, lo, hi]


def begin(m, k):
    return [2, m, k]


def like(i, j):
    return [3, i, j]


STILL = [4]
ASK = [5]
BEST = [6]
UNDO = [7]


def run(*calls):
    """What each call is answered, as a list of lists."""
    told = answers([number for call in calls for number in call])
    parted = []
    while told:
        size = told[0]
        parted.append(told[1:1 + size])
        told = told[1 + size:]
    assert len(parted) == len(calls), parted
    assert [len(answer) for answer in parted] == [max(1, len(answer)) for answer in parted], parted
    return parted


def last(*calls):
    return run(*calls)[-1]


def list_text(ways, rows):
    """A right list with these ways (up, down) and rows of values."""
    told = ["measures " + ", ".join(f"m{n} {way}" for n, way in enumerate(ways)) + " ;"]
    for n, row in enumerate(rows):
        told.append(f"item i{n} : " + ", ".join(str(value) for value in row) + " ;")
    return "\n".join(told) + "\n"


def good_pairs(ways, rows, m, k):
    """Each item's good values by the measures m and k."""
    signs = [1 if way == "up" else -1 for way in ways]
    return [(signs[m] * row[m], signs[k] * row[k]) for row in rows]


def has(pair, share):
    """What an item with these good values has for a share, as the document says it."""
    return share * pair[0] + (1 - share) * pair[1]


def shares_of(answer):
    """The two shares that like has answered."""
    return Fraction(answer[1], answer[2]), Fraction(answer[3], answer[4])


def still_of(answer):
    """The items and the two shares that still has answered."""
    count = answer[0]
    least, under_least, greatest, under_greatest = answer[1 + count:]
    return answer[1:1 + count], Fraction(least, under_least), Fraction(greatest, under_greatest)
