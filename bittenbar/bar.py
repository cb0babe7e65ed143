"""The calls about one bar, and what they answer."""

BAR = 0
SHAPE = 1
BITE = 2
BACK = 3
SHOWS = 4
WON = 5
GOOD = 6
LONG = 7
PLAY = 8
UNDER = 9
LOST = 10
TURNED = 11

MOST_ROWS = 5
MOST_SQUARES = 6

WRONG_SIZE = -1
NO_SUCH_SQUARE = -2
NOTHING_LEFT = -6
NOBODY_HAS_BITTEN = -9


class UnknownCall(ValueError):
    """A call was handed in whose number stands for none."""


def is_shape(rows):
    """Whether these may be the rows of a bar that is laid down."""
    if not 1 <= len(rows) <= MOST_ROWS:
        return False
    longest = MOST_SQUARES
    for squares in rows:
        if not 1 <= squares <= longest:
            return False
        longest = squares
    return True


def has_square(shape, row, square):
    """Whether the shape has this square in this row."""
    return 1 <= row <= len(shape) and 1 <= square <= shape[row - 1]


def left_by_bite(shape, row, square):
    """The shape that is left by a bite at a square that it has."""
    untouched = shape[:row - 1]
    if square == 1:
        # The bitten rows keep no square, and such rows aren't told.
        return untouched
    return untouched + tuple([min(squares, square - 1) for squares in shape[row - 1:]])


def bites_at(shape):
    """All bites at the shape, row and square of each, by rows, then by squares."""
    bites = []
    for row in range(1, len(shape) + 1):
        for square in range(1, shape[row - 1] + 1):
            bites.append((row, square))
    return bites


def with_one_more_row(shapes, longest):
    """Each of these shapes with each row put behind it that fits there and isn't above longest."""
    grown = []
    for shape in shapes:
        fitting = min(longest, shape[-1]) if shape else longest
        for squares in range(1, fitting + 1):
            grown.append(shape + (squares,))
    return grown


def shapes_within(shape):
    """All shapes that lie within this one, itself among them, the empty one not.

    They come by how many rows they have, then by these, rising. A bite leaves fewer rows or smaller ones,
    so each shape stands behind all that come from it.
    """
    found = []
    grown = [()]
    for squares in shape:
        grown = with_one_more_row(grown, squares)
        found.extend(grown)
    return found


def rows_and_squares_exchanged(shape):
    """The rows of the shape in which each square's row and its number in that row have changed places."""
    rows = []
    for square in range(1, shape[0] + 1):
        rows.append(len([squares for squares in shape if squares >= square]))
    return rows


class Judge:
    """Tells how long shapes are and which are lost, and keeps what it has found out."""

    def __init__(self):
        # The empty shape has no bite left.
        self.lengths = {(): 0}

    def length(self, shape):
        """How many bites there are yet, the bitter one among them."""
        if shape not in self.lengths:
            # From the small to the large, so that nothing is nested.
            for smaller in shapes_within(shape):
                if smaller not in self.lengths:
                    self.lengths[smaller] = 1 + self.length_behind(smaller, self.best_bite(smaller))
        return self.lengths[shape]

    def length_behind(self, shape, bite):
        """How many bites there are yet when this one is made."""
        return self.length(left_by_bite(shape, bite[0], bite[1]))

    def is_lost(self, shape):
        """Whether the shape is lost for the one at turn."""
        # Who takes the last bite has lost, and with an odd number that's the one at turn. So the empty shape
        # isn't lost, and the bitter bite is never good.
        return self.length(shape) % 2 == 1

    def good_bites(self, shape):
        """The bites that leave a lost shape, by rows, then by squares."""
        return [bite for bite in bites_at(shape) if self.is_lost(left_by_bite(shape, bite[0], bite[1]))]

    def best_bite(self, shape):
        """The first good bite by which it's over soonest; where there's none, the first by which it's over latest."""
        good = self.good_bites(shape)
        # Of several that are even, min and max give the first.
        if good:
            return min(good, key=lambda bite: self.length_behind(shape, bite))
        return max(bites_at(shape), key=lambda bite: self.length_behind(shape, bite))


class Bar:
    """One bar, with the bites there were; each method answers one call."""

    def __init__(self):
        self.shape = (1,)
        # The shape ahead of each bite, so that bites can be undone.
        self.earlier = []
        self.judge = Judge()

    def lay_whole(self, rows, squares):
        """The call bar."""
        # Held against the limit first: so many rows might not fit in memory.
        if not 1 <= rows <= MOST_ROWS:
            return [WRONG_SIZE]
        return self.lay_shape([squares] * rows)

    def lay_shape(self, rows):
        """The call shape."""
        if not is_shape(rows):
            return [WRONG_SIZE]
        self.shape = tuple(rows)
        self.earlier = []
        return [sum(rows)]

    def bite(self, row, square):
        """The call bite."""
        if not self.shape:
            return [NOTHING_LEFT]
        if not has_square(self.shape, row, square):
            return [NO_SUCH_SQUARE]
        before = self.shape
        self.earlier.append(before)
        self.shape = left_by_bite(before, row, square)
        return [sum(before) - sum(self.shape)]

    def back(self):
        """The call back."""
        if not self.earlier:
            return [NOBODY_HAS_BITTEN]
        self.shape = self.earlier.pop()
        return [sum(self.shape)]

    def shows(self):
        """The call shows."""
        return [len(self.shape)] + list(self.shape) + [len(self.earlier)]

    def won(self):
        """The call won."""
        if not self.shape:
            return [NOTHING_LEFT]
        return [0 if self.judge.is_lost(self.shape) else 1]

    def good(self):
        """The call good."""
        if not self.shape:
            return [NOTHING_LEFT]
        bites = self.judge.good_bites(self.shape)
        answer = [len(bites)]
        for bite in bites:
            answer.extend(bite)
        return answer

    def long(self):
        """The call long."""
        if not self.shape:
            return [NOTHING_LEFT]
        return [self.judge.length(self.shape)]

    def play(self):
        """The call play."""
        if not self.shape:
            return [NOTHING_LEFT]
        best = self.judge.best_bite(self.shape)
        self.bite(best[0], best[1])
        return list(best)

    def under(self):
        """The call under."""
        if not self.shape:
            return [NOTHING_LEFT]
        # Square by square, from the outside, whatever lies within can come.
        shapes = shapes_within(self.shape)
        return [len(shapes), len(self.lost_among(shapes))]

    def lost(self, count):
        """The call lost."""
        if not 1 <= count <= MOST_ROWS * MOST_SQUARES:
            return [WRONG_SIZE]
        shapes = shapes_within((MOST_SQUARES,) * MOST_ROWS)
        found = self.lost_among([shape for shape in shapes if sum(shape) == count])
        # Tuples are compared as the order asks: by row 1, then row 2, and so on.
        last = max(found, default=())
        return [len(found), len(last)] + list(last)

    def turned(self):
        """The call turned."""
        if not self.shape:
            return [NOTHING_LEFT]
        rows = rows_and_squares_exchanged(self.shape)
        return [len(rows)] + rows

    def lost_among(self, shapes):
        """Those of the shapes that are lost."""
        return [shape for shape in shapes if self.judge.is_lost(shape)]


class Line:
    """A line's calls, read number by number."""

    def __init__(self, calls):
        self.calls = calls
        self.place = 0

    def is_read(self):
        """Whether all numbers are taken."""
        return self.place == len(self.calls)

    def take(self):
        """The number that comes now."""
        number = self.calls[self.place]
        self.place += 1
        return number

    def take_list(self):
        """The list that comes now, how many numbers it has standing before it."""
        count = self.take()
        start = self.place
        self.place = start + count
        return self.calls[start:self.place]


def answer_call(bar, line):
    """The answer to the line's call that comes now."""
    number = line.take()
    if number == BAR:
        rows = line.take()
        return bar.lay_whole(rows, line.take())
    if number == SHAPE:
        return bar.lay_shape(line.take_list())
    if number == BITE:
        row = line.take()
        return bar.bite(row, line.take())
    if number == BACK:
        return bar.back()
    if number == SHOWS:
        return bar.shows()
    if number == WON:
        return bar.won()
    if number == GOOD:
        return bar.good()
    if number == LONG:
        return bar.long()
    if number == PLAY:
        return bar.play()
    if number == UNDER:
        return bar.under()
    if number == LOST:
        return bar.lost(line.take())
    if number == TURNED:
        return bar.turned()
    raise UnknownCall(f"no call has the number {number}")


def answers(calls):
    """For each of the calls, in order: how many numbers are answered, then these."""
    bar = Bar()
    line = Line(calls)
    told = []
    while not line.is_read():
        answer = answer_call(bar, line)
        told.append(len(answer))
        told.extend(answer)
    return told
