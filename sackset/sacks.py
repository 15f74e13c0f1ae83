"""Sacks: lower parts of numbers, kept in the lightest of three forms."""

from sackset.errors import NoNumber

LOWS = 256
WORD_SIZE = 64
WORDS = 4
PAIR_WEIGHT = 2
BITS_WEIGHT = 32


class Sack:
    """Some lower parts, at least one. Each class under this one keeps them in
    its own form, and tells with _holds whether a lower part is in it.
    """

    def __init__(self, kind, told, weight):
        # told is a tuple, of numbers or of tuples of numbers: nobody can
        # change it, so form may hand it out as it is.
        self._kind = kind
        self._told = told
        self._weight = weight

    def form(self):
        """The pair (kind, tuple)."""
        return self._kind, self._told

    def kind(self):
        """The kind of the form: "row", "runs" or "bits"."""
        return self._kind

    def weight(self):
        """The weight of the form."""
        return self._weight

    def count(self):
        """How many lower parts there are."""
        return len(self.lows())

    def lows(self):
        """The rising list of the lower parts, a new one."""
        return [low for low in range(LOWS) if self._holds(low)]

    def has(self, low):
        """Whether low is among the lower parts."""
        # The forms look up lower parts only: bits have no word for others.
        return is_low(low) and self._holds(low)


class RowSack(Sack):
    """A sack that keeps its lower parts one by one, rising."""

    def __init__(self, lows):
        Sack.__init__(self, "row", lows, len(lows))

    def lows(self):
        """The rising list of the lower parts, a new one."""
        return list(self._told)

    def _holds(self, low):
        return low in self._told


class RunsSack(Sack):
    """A sack that keeps the first and the last one of each row without a gap."""

    def __init__(self, pairs):
        Sack.__init__(self, "runs", pairs, PAIR_WEIGHT * len(pairs))

    def count(self):
        """How many lower parts there are."""
        return sum(last - first + 1 for first, last in self._told)

    def lows(self):
        """The rising list of the lower parts, a new one."""
        return [low for first, last in self._told for low in range(first, last + 1)]

    def _holds(self, low):
        return any(first <= low <= last for first, last in self._told)


class BitsSack(Sack):
    """A sack that keeps a bit for each of the 256 lower parts, in four words."""

    def __init__(self, words):
        Sack.__init__(self, "bits", words, BITS_WEIGHT)

    def _holds(self, low):
        word = self._told[low // WORD_SIZE]
        return (word >> low % WORD_SIZE) & 1 == 1


def sack_of(lows):
    """The sack of a list of lower parts, in any order, each once or several times."""
    rising = rising_lows(lows)
    row = RowSack(tuple(rising))
    runs = RunsSack(pairs_of(rising))
    # Of like weights a row goes ahead of runs, runs ahead of bits.
    lighter = row if row.weight() <= runs.weight() else runs
    if lighter.weight() <= BITS_WEIGHT:
        return lighter
    return BitsSack(words_of(rising))


def is_low(low):
    """Whether something, whatever it is, is a lower part."""
    # True and False are integers to isinstance, but no numbers here.
    return type(low) == int and 0 <= low < LOWS


def rising_lows(lows):
    """The lower parts of a list, rising, each one once."""
    if not lows:
        raise NoNumber("no sack is empty")
    for low in lows:
        # The message does not show low: not everything can be shown.
        if not is_low(low):
            raise NoNumber("a lower part is a whole number from 0 to 255")
    return sorted(set(lows))


def pairs_of(rising):
    """The pairs (first, last) of the longest rows without a gap, rising."""
    pairs = []
    first = last = rising[0]
    for number in rising[1:]:
        if number > last + 1:
            pairs.append((first, last))
            first = number
        last = number
    pairs.append((first, last))
    return tuple(pairs)


def words_of(rising):
    """The four words, in which the bit of each lower part is 1."""
    words = [0] * WORDS
    for low in rising:
        words[low // WORD_SIZE] |= 1 << low % WORD_SIZE
    return tuple(words)
