"""Towns, counts and fractions as texts."""

from math import gcd

from greenheld.errors import BadText
from greenheld.forms import is_cars

DIGITS = "0123456789"
MOST_DIGITS = 9
MOST_FRACTION_DIGITS = 60

CROSSING = "crossing "
MOVE = "move "
CROSS = "cross "


def shared_beginning(one, other):
    """How many signs both texts begin with alike."""
    for k, (mine, its) in enumerate(zip(one, other)):
        if mine != its:
            return k
    return min(len(one), len(other))


class Reader:
    """Goes along a text, and raises BadText where it cannot go on."""

    def __init__(self, text):
        if not isinstance(text, str):
            raise BadText(0)
        self.text = text
        self.at = 0

    def is_done(self):
        """Whether all of the text is read."""
        return self.at == len(self.text)

    def sees(self, word):
        """Whether this word stands next."""
        return self.text.startswith(word, self.at)

    def takes(self, word):
        """Reads this word, if it stands next; returns whether it does."""
        if not self.sees(word):
            return False
        self.at += len(word)
        return True

    def expect(self, words):
        """Raises BadText unless one of the words stands next."""
        if not any([self.sees(word) for word in words]):
            rest = self.text[self.at:]
            raise BadText(self.at + max([shared_beginning(rest, word) for word in words]))

    def one_of(self, words):
        """Reads the one of these words that stands next, and returns it."""
        self.expect(words)
        found = [word for word in words if self.sees(word)]
        self.at += len(found[0])
        return found[0]

    def word(self, word):
        """Reads this word."""
        self.one_of((word,))

    def end(self):
        """Raises BadText unless all of the text is read."""
        if not self.is_done():
            raise BadText(self.at)

    def sees_digit(self):
        """Whether a digit stands next."""
        return self.at < len(self.text) and self.text[self.at] in DIGITS

    def number(self, least, digits):
        """Reads an integer from least on, 0 or 1, of at most so many digits, without needless noughts."""
        begin = self.at
        if least == 0 and self.takes("0"):
            return 0
        if self.sees("0") or not self.sees_digit():
            raise BadText(begin)
        while self.sees_digit() and self.at - begin < digits:
            self.at += 1
        return int(self.text[begin:self.at])

    def signed(self, digits):
        """Reads an integer of at most so many digits, with a sign ahead of it if it is below 0."""
        if self.takes("-"):
            return -self.number(1, digits)
        return self.number(0, digits)


def move_text(move):
    """The line of a movement."""
    to = "out" if move[1] is None else str(move[1])
    return f"{MOVE}{move[0]} to {to}"


def cross_text(row):
    """The line of two movements that cross."""
    return f"{CROSS}{row[0]} {row[1]} clear {row[2]} {row[3]}"


def crossing_text(crossing):
    """The lines of a crossing."""
    moves = [move_text(move) for move in crossing[0]]
    crossed = [cross_text(row) for row in crossing[1]]
    return "\n".join([f"{CROSSING}{crossing[2]}"] + moves + crossed)


def town_text(town):
    """The lines of a town."""
    return "\n".join([f"queues {town[0]}"] + [crossing_text(crossing) for crossing in town[1]])


def move_behind(reader):
    """The movement whose line goes on here."""
    q = reader.number(0, MOST_DIGITS)
    reader.word(" to ")
    if reader.sees("o"):
        reader.word("out")
        return (q, None)
    return (q, reader.number(0, MOST_DIGITS))


def cross_behind(reader):
    """The two movements, and their clearances, whose line goes on here."""
    i = reader.number(0, MOST_DIGITS)
    reader.word(" ")
    j = reader.number(0, MOST_DIGITS)
    reader.word(" clear ")
    ahead = reader.number(0, MOST_DIGITS)
    reader.word(" ")
    return (i, j, ahead, reader.number(0, MOST_DIGITS))


def crossing_behind(reader, ends):
    """The crossing whose first line goes on here; behind it stands one of ends, or nothing."""
    length = reader.number(0, MOST_DIGITS)
    moves, crossed = [], []
    while reader.takes("\n" + MOVE):
        moves.append(move_behind(reader))
    while reader.takes("\n" + CROSS):
        crossed.append(cross_behind(reader))
    if not reader.is_done():
        more = ("\n" + CROSS,) if crossed else ("\n" + MOVE, "\n" + CROSS)
        reader.expect(more + ends)
    return (tuple(moves), tuple(crossed), length)


def read_crossing(text):
    """The crossing that is written so."""
    reader = Reader(text)
    reader.word(CROSSING)
    return crossing_behind(reader, ())


def read_town(text):
    """The town that is written so."""
    reader = Reader(text)
    reader.word("queues ")
    n = reader.number(0, MOST_DIGITS)
    crossings = []
    while not reader.is_done():
        reader.word("\n" + CROSSING)
        crossings.append(crossing_behind(reader, ("\n" + CROSSING,)))
    return (n, tuple(crossings))


def counts_text(counts):
    """The line of counts."""
    return " ".join(["counts"] + [str(many) for many in counts])


def read_counts(text):
    """The counts that are written so."""
    reader = Reader(text)
    reader.word("counts ")
    counts = [reader.number(0, MOST_DIGITS)]
    while not reader.is_done():
        reader.word(" ")
        counts.append(reader.number(0, MOST_DIGITS))
    return tuple(counts)


def is_counts(town, value):
    """Whether it is counts of this town."""
    return is_cars(value, town[0])


def scaled_counts(counts, k):
    """The counts k times."""
    return tuple([many * k for many in counts])


def added_counts(one, other):
    """The sums of two counts of one town."""
    return tuple([many + more for many, more in zip(one, other)])


def fraction_text(f):
    """The text of a fraction."""
    return str(f[0]) if f[1] == 1 else f"{f[0]}/{f[1]}"


def read_fraction(text):
    """The fraction that is written so."""
    reader = Reader(text)
    u = reader.signed(MOST_FRACTION_DIGITS)
    if reader.is_done():
        return (u, 1)
    reader.word("/")
    e = reader.number(1, MOST_FRACTION_DIGITS)
    reader.end()
    # Of all texts of one fraction only one may be read.
    if e == 1 or gcd(u, e) != 1:
        raise BadText(0)
    return (u, e)
