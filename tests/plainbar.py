"""What the tests hold the program against: a bar as its single squares, straight from the words."""

from functools import lru_cache

BAR, SHAPE, BITE, BACK, SHOWS, WON = range(6)
LARGEST = 4294967295


def bar(r, c):
    return [BAR, r, c]


def shape(*rows):
    return [SHAPE, len(rows), *rows]


def bite(i, j):
    return [BITE, i, j]


BACK_CALL = [BACK]
SHOWS_CALL = [SHOWS]
WON_CALL = [WON]


def line(*calls):
    """The calls, one behind another, as one list."""
    return [number for call in calls for number in call]


def split_answers(numbers):
    """The list that was given back, as one list for each call."""
    found = []
    at = 0
    while at < len(numbers):
        behind = at + 1 + numbers[at]
        if numbers[at] < 1 or behind > len(numbers):
            raise AssertionError(f"at {at} of {numbers} stands no count of an answer")
        found.append(numbers[at + 1:behind])
        at = behind
    return found


def squares_of(rows):
    return frozenset((i, j) for i, length in enumerate(rows, 1) for j in range(1, length + 1))


def rows_of(squares):
    count = max((i for i, j in squares), default=0)
    return [sum(1 for i, j in squares if i == row) for row in range(1, count + 1)]


def after_bite(squares, i, j):
    return frozenset((a, b) for a, b in squares if a < i or b < j)


@lru_cache(maxsize=None)
def is_won(squares):
    return any(not is_won(after_bite(squares, i, j)) for i, j in squares if (i, j) != (1, 1))


def all_shapes(most_rows=5, most_squares=6):
    """Every shape but the empty one, within these limits."""
    found = []
    if most_rows:
        for first in range(1, most_squares + 1):
            found.append((first,))
            found.extend((first, *rest) for rest in all_shapes(most_rows - 1, first))
    return found


class PlainBar:
    """Answers the calls from the set of squares that are left."""

    def __init__(self):
        self.squares = squares_of([1])
        self.before = []

    def lay(self, rows):
        whole = 1 <= len(rows) <= 5 and all(1 <= length <= 6 for length in rows)
        if not whole or list(rows) != sorted(rows, reverse=True):
            return [-1]
        self.squares = squares_of(rows)
        self.before = []
        return [len(self.squares)]

    def answer(self, call):
        kind = call[0]
        if kind == BAR:
            return self.lay([call[2]] * min(call[1], 6))
        if kind == SHAPE:
            return self.lay(call[2:])
        if kind == BITE:
            return self.bite((call[1], call[2]))
        if kind == BACK:
            return self.back()
        if kind == SHOWS:
            rows = rows_of(self.squares)
            return [len(rows), *rows, len(self.before)]
        return [int(is_won(self.squares))] if self.squares else [-6]

    def bite(self, square):
        if not self.squares:
            return [-6]
        if square not in self.squares:
            return [-2]
        self.before.append(self.squares)
        self.squares = after_bite(self.squares, *square)
        return [len(self.before[-1]) - len(self.squares)]

    def back(self):
        if not self.before:
            return [-9]
        self.squares = self.before.pop()
        return [len(self.squares)]
