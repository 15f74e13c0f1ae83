"""Sets of numbers: a sack of lower parts for each upper part that is there."""

from sackset.errors import NoNumber, NoRank, NoStretch
from sackset.sacks import LOWS, pairs_of, sack_of

GREATEST = 16777215
FARTHEST = 99999


class NumberSet:
    """A set of numbers from 0 to GREATEST."""

    def __init__(self, numbers=None):
        # The sacks by their upper parts, in any order.
        self._sacks = {}
        table = {}
        for number in numbers or []:
            check_number(number)
            table.setdefault(number // LOWS, []).append(number % LOWS)
        for upper in table:
            self._keep(upper, table[upper])

    def put(self, number):
        """Puts a number in, and tells whether that changed the set."""
        check_number(number)
        return self._change(number, number, lows_joined) != 0

    def drop(self, number):
        """Takes a number out, and tells whether that changed the set."""
        check_number(number)
        return self._change(number, number, lows_less) != 0

    def put_all(self, first, last=None):
        """Puts a stretch in, and tells how many numbers more there are then."""
        return self._change(first, checked_last(first, last), lows_joined)

    def drop_all(self, first, last=None):
        """Takes a stretch out, and tells how many numbers more there are then:
        below 0 where there are fewer.
        """
        return self._change(first, checked_last(first, last), lows_less)

    def turn(self, first, last=None):
        """Takes out what of a stretch is there, and puts in what is not. Tells
        how many numbers more there are then: below 0 where there are fewer.
        """
        return self._change(first, checked_last(first, last), lows_apart)

    def has(self, number):
        """Whether a number is in the set."""
        check_number(number)
        upper = number // LOWS
        return upper in self._sacks and self._sacks[upper].has(number % LOWS)

    def count(self):
        """How many numbers there are."""
        return sum([self._sacks[upper].count() for upper in self._sacks])

    def numbers(self, first=0, last=GREATEST):
        """The rising list of the numbers from a first to a last one."""
        check_number(first)
        check_number(last)
        return [
            number
            for upper in self._uppers(first, last)
            for number in self._numbers_under(upper)
            if first <= number <= last
        ]

    def sacks(self):
        """The list of pairs (upper part, form), rising."""
        return [(upper, self._sacks[upper].form()) for upper in sorted(self._sacks)]

    def below(self, number):
        """How many numbers of the set are less than a number."""
        check_number(number)
        border = number // LOWS
        whole = [self._sacks[upper].count() for upper in self._sacks if upper < border]
        part = [low for low in self._lows(border) if low < number % LOWS]
        return sum(whole) + len(part)

    def at(self, rank):
        """The number at a place of the rising list, from 0."""
        # True and False are integers to isinstance, but no ranks.
        if type(rank) == int and rank >= 0:
            left = rank
            for upper in sorted(self._sacks):
                many = self._sacks[upper].count()
                if left < many:
                    return self._numbers_under(upper)[left]
                left -= many
        raise NoRank("a rank is a whole number from 0, below the count")

    def next_from(self, number=0):
        """The least number of the set that is not below a number, or None."""
        check_number(number)
        for upper in self._uppers(number, GREATEST):
            found = [other for other in self._numbers_under(upper) if other >= number]
            if found:
                return found[0]
        return None

    def last_to(self, number=GREATEST):
        """The greatest number of the set that is not above a number, or None."""
        check_number(number)
        for upper in reversed(self._uppers(0, number)):
            found = [other for other in self._numbers_under(upper) if other <= number]
            if found:
                return found[-1]
        return None

    def stretches(self):
        """The pairs (first, last) of the longest rows without a gap, rising."""
        told = []
        for upper in sorted(self._sacks):
            for first, last in pairs_of(self._numbers_under(upper)):
                # A row may go on from one sack to the next one.
                if told and told[-1][1] + 1 == first:
                    told[-1] = (told[-1][0], last)
                else:
                    told.append((first, last))
        return told

    def _change(self, first, last, mix):
        """Keeps what mix makes of each sack and its part of a stretch. Tells how
        many numbers more there are then.
        """
        more = 0
        for upper in range(first // LOWS, last // LOWS + 1):
            before = self._lows(upper)
            after = mix(before, stretch_lows(upper, first, last))
            self._keep(upper, after)
            more += len(after) - len(before)
        return more

    def _keep(self, upper, lows):
        """Keeps these lower parts, and no others, under an upper part."""
        if lows:
            self._sacks[upper] = sack_of(lows)
        elif upper in self._sacks:
            del self._sacks[upper]

    def _lows(self, upper):
        """The rising list of the lower parts under an upper part."""
        return self._sacks[upper].lows() if upper in self._sacks else []

    def _numbers_under(self, upper):
        """The rising list of the numbers under an upper part."""
        return [upper * LOWS + low for low in self._lows(upper)]

    def _uppers(self, first, last):
        """The upper parts of the sacks that numbers from first to last may be in."""
        return [upper for upper in sorted(self._sacks) if first // LOWS <= upper <= last // LOWS]


def joined(one, other):
    """A new set of the numbers that are in one set at least."""
    return mixed(one, other, lows_joined)


def met(one, other):
    """A new set of the numbers that are in both sets."""
    return mixed(one, other, lows_met)


def less(one, other):
    """A new set of the numbers that are in the first set, but not in the second."""
    return mixed(one, other, lows_less)


def apart(one, other):
    """A new set of the numbers that are in just one of the sets."""
    return mixed(one, other, lows_apart)


def same(one, other):
    """Whether two sets have the same numbers."""
    # What is in a sack tells its form.
    return one.sacks() == other.sacks()


def within(one, other):
    """Whether each number of the first set is in the second one."""
    return less(one, other).count() == 0


def mixed(one, other, mix):
    """A new set of what mix makes of the sacks of two sets."""
    made = NumberSet()
    for upper in sorted(set(one._sacks) | set(other._sacks)):
        made._keep(upper, mix(one._lows(upper), other._lows(upper)))
    return made


def lows_joined(one, other):
    """The lower parts that are in one list at least."""
    return one + lows_less(other, one)


def lows_met(one, other):
    """The lower parts that are in both lists."""
    there = set(other)
    return [low for low in one if low in there]


def lows_less(one, other):
    """The lower parts that are in the first list, but not in the second."""
    there = set(other)
    return [low for low in one if low not in there]


def lows_apart(one, other):
    """The lower parts that are in just one of the lists."""
    return lows_less(one, other) + lows_less(other, one)


def stretch_lows(upper, first, last):
    """The lower parts under an upper part that are from a first to a last number."""
    start = upper * LOWS
    return list(range(max(first - start, 0), min(last - start, LOWS - 1) + 1))


def check_number(thing):
    """Refuses what is no number, whatever it is."""
    # True and False are integers to isinstance, but no numbers. The message
    # does not show the thing: not everything can be shown.
    if type(thing) != int or not 0 <= thing <= GREATEST:
        raise NoNumber("a number is a whole number from 0 to 16777215")


def checked_last(first, last):
    """The last number of a stretch, of which the last one may be None."""
    check_number(first)
    if last is None:
        return first
    check_number(last)
    if last < first:
        raise NoStretch("the last number is below the first one")
    if last > first + FARTHEST:
        raise NoStretch("the last number is more than 99999 above the first one")
    return last
