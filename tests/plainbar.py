"""How the tests ask, and what they hold the program against: a bar as its single squares, straight from the words."""

from functools import lru_cache

from bittenbar.bar import answers

BAR, SHAPE, BITE, BACK, SHOWS, WON, GOOD, LONG, PLAY, UNDER, LOST, TURNED = range(12)
LARGEST = 4294967295


def bar(r, c):
    return [BAR, r, c]


def shape(*rows):
    return [SHAPE, len(rows), *rows]


def bite(i, j):
    return [BITE, i, j]


def lost(n):
    return [LOST, n]


BACK_CALL = [BACK]
SHOWS_CALL = [SHOWS]
WON_CALL = [WON]
GOOD_CALL = [GOOD]
LONG_CALL = [LONG]
PLAY_CALL = [PLAY]
UNDER_CALL = [UNDER]
TURNED_CALL = [TURNED]


def line(*calls):
    """The calls, one behind another, as one list."""
    return [number for call in calls for number in call]


def split_answers(numbers):
    """The list that was given back, as one list for each call."""
    found = []
    at = 0
    while at < len(numbers):
        behind = at + 1 + numbers[at]
        if numbers[at] < 1 or behind > len(numbers):
            raise AssertionError(f"at {at} of {numbers} stands no count of an answer")
        found.append(numbers[at + 1:behind])
        at = behind
    return found


def told(*calls):
    """The program's answers to these calls in one line, a list for each."""
    return split_answers(answers(line(*calls)))


def squares_of(rows):
    return frozenset((i, j) for i, length in enumerate(rows, 1) for j in range(1, length + 1))


def rows_of(squares):
    count = max((i for i, j in squares), default=0)
    return [sum(1 for i, j in squares if i == row) for row in range(1, count + 1)]


def after_bite(squares, i, j):
    return frozenset((a, b) for a, b in squares if a < i or b < j)


@lru_cache(maxsize=None)
def is_won(squares):
    return any(not is_won(after_bite(squares, i, j)) for i, j in squares if (i, j) != (1, 1))


def good_bites(squares):
    """The bites that leave a lost shape, by rows, then by squares."""
    return [(i, j) for i, j in sorted(squares) if (i, j) != (1, 1) and not is_won(after_bite(squares, i, j))]


@lru_cache(maxsize=None)
def how_long(squares):
    """How many bites there are yet; none when nothing is left."""
    if not squares:
        return 0
    good = good_bites(squares)
    if good:
        return 1 + min(how_long(after_bite(squares, i, j)) for i, j in good)
    return 1 + max(how_long(after_bite(squares, i, j)) for i, j in squares)


def played_bite(squares):
    """The bite that play makes."""
    wanted = how_long(squares) - 1
    for i, j in good_bites(squares) or sorted(squares):
        if how_long(after_bite(squares, i, j)) == wanted:
            return (i, j)
    raise AssertionError(f"no bite at {rows_of(squares)} leaves {wanted} bites")


@lru_cache(maxsize=None)
def shapes_under(squares):
    """The shapes that can come from this one, gathered bite by bite: with itself, without the empty one."""
    found = {squares}
    waiting = [squares]
    while waiting:
        now = waiting.pop()
        for i, j in now:
            left = after_bite(now, i, j)
            if left and left not in found:
                found.add(left)
                waiting.append(left)
    return frozenset(found)


@lru_cache(maxsize=None)
def lost_of(count):
    """The lost shapes of so many squares, by row 1, then row 2, and so on, rising."""
    return tuple(sorted(rows for rows in all_shapes() if sum(rows) == count and not is_won(squares_of(rows))))


def exchanged(squares):
    return frozenset((j, i) for i, j in squares)


def all_shapes(most_rows=5, most_squares=6):
    """Every shape but the empty one, within these limits."""
    found = []
    if most_rows:
        for first in range(1, most_squares + 1):
            found.append((first,))
            found.extend((first, *rest) for rest in all_shapes(most_rows - 1, first))
    return found


def told_in_long_lines(call):
    """Every shape with its answer to this call, twenty shapes in a line.

    Both ways round: what the program finds out of one shape must not mislead it on the next.
    """
    for shapes in [all_shapes(), all_shapes()[::-1]]:
        for start in range(0, len(shapes), 20):
            some = shapes[start:start + 20]
            given = told(*[each for rows in some for each in (shape(*rows), call)])
            yield from zip(some, given[1::2], strict=True)


class PlainBar:
    """Answers the calls from the set of squares that are left."""

    def __init__(self):
        self.squares = squares_of([1])
        self.before = []

    def lay(self, rows):
        whole = 1 <= len(rows) <= 5 and all(1 <= length <= 6 for length in rows)
        if not whole or list(rows) != sorted(rows, reverse=True):
            return [-1]
        self.squares = squares_of(rows)
        self.before = []
        return [len(self.squares)]

    def answer(self, call):
        kind = call[0]
        if kind == BAR:
            return self.lay([call[2]] * min(call[1], 6))
        if kind == SHAPE:
            return self.lay(call[2:])
        if kind == BITE:
            return self.bite((call[1], call[2]))
        if kind == BACK:
            return self.back()
        if kind == SHOWS:
            rows = rows_of(self.squares)
            return [len(rows), *rows, len(self.before)]
        if kind == LOST:
            return self.lost(call[1])
        return self.of_what_is_left(kind) if self.squares else [-6]

    def of_what_is_left(self, kind):
        if kind == WON:
            return [int(is_won(self.squares))]
        if kind == GOOD:
            good = good_bites(self.squares)
            return [len(good), *[number for square in good for number in square]]
        if kind == LONG:
            return [how_long(self.squares)]
        if kind == PLAY:
            square = played_bite(self.squares)
            self.bite(square)
            return list(square)
        if kind == UNDER:
            shapes = shapes_under(self.squares)
            return [len(shapes), sum(1 for squares in shapes if not is_won(squares))]
        if kind == TURNED:
            rows = rows_of(exchanged(self.squares))
            return [len(rows), *rows]
        raise AssertionError(f"{kind} is no call")

    def lost(self, count):
        if not 1 <= count <= 30:
            return [-1]
        shapes = lost_of(count)
        last = shapes[-1] if shapes else ()
        return [len(shapes), len(last), *last]

    def bite(self, square):
        if not self.squares:
            return [-6]
        if square not in self.squares:
            return [-2]
        self.before.append(self.squares)
        self.squares = after_bite(self.squares, *square)
        return [len(self.before[-1]) - len(self.squares)]

    def back(self):
        if not self.before:
            return [-9]
        self.squares = self.before.pop()
        return [len(self.squares)]
