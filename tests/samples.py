"""Lists of lower parts for the tests, and a second, slow way to tell their form."""

from sackset.sacks import BitsSack, RowSack, RunsSack

CLASSES = {"row": RowSack, "runs": RunsSack, "bits": BitsSack}


class Odd:
    """Equal to everything, and not to be shown."""

    def __eq__(self, other):
        return True

    def __hash__(self):
        return 1

    def __repr__(self):
        raise RuntimeError("shown")

    __str__ = __repr__


NO_LOWS = [
    ("-1", -1),
    ("256", 256),
    ("far above", 10 ** 5000),
    ("far below", -(10 ** 5000)),
    ("True", True),
    ("False", False),
    ("None", None),
    ("a text", "a"),
    ("a figure", "7"),
    ("an empty text", ""),
    ("bytes", b"7"),
    ("a list", [7]),
    ("an empty list", []),
    ("a tuple", (7,)),
    ("a dict", {7: 7}),
    ("a set", {7}),
    ("a number with a point", 7.0),
    ("no number", float("nan")),
    ("an object", object()),
    ("an odd object", Odd()),
]


def singles(many):
    """That many lower parts, no two of them side by side."""
    return [2 * k for k in range(many)]


def groups(many, size):
    """That many groups of that size without a gap, apart from each other."""
    return [(size + 1) * k + n for k in range(many) for n in range(size)]


def some_of_each_kind():
    """By each kind, lists that are told rising and each once."""
    return {
        "row": [[0], [255], [7, 8], [0, 1, 2, 10], [0, 64, 128, 192, 255], singles(32)],
        "runs": [
            [3, 4, 5],
            list(range(256)),
            list(range(63, 193)),
            [0, 1, 2, 253, 254, 255],
            groups(16, 3),
        ],
        "bits": [
            singles(33),
            singles(128),
            [low for low in range(256) if low % 3],
            [*range(64), *range(65, 256, 2)],
            [low for low in range(256) if low not in range(1, 256, 9)],
        ],
    }


def each_sample():
    """The pairs of a kind and a list of it."""
    return [(kind, lows) for kind, rows in some_of_each_kind().items() for lows in rows]


def mixed(lows):
    """The same things in another order: no rising, no falling one."""
    half = len(lows) // 2
    return lows[half:][::-1] + lows[:half]


def scattered(seed):
    """Some lower parts, more or fewer, in longer or shorter rows, by a seed."""
    state = seed * 7919 + 17
    lows = []
    low = 0
    while low < 256:
        state = (state * 1103515245 + 12345) % 2 ** 31
        length = 1 + (state >> 16) % (1 + seed % 11)
        gap = 1 + (state >> 8) % (1 + seed % 47)
        lows.extend(range(low, min(low + length, 256)))
        low += length + gap
    return lows


def told_form(lows):
    """The form of what is in a list, worked out from 256 signs."""
    signs = "".join("1" if low in lows else "0" for low in range(256))
    row = tuple(low for low, sign in enumerate(signs) if sign == "1")
    firsts = [low for low in row if low == 0 or signs[low - 1] == "0"]
    lasts = [low for low in row if low == 255 or signs[low + 1] == "0"]
    words = tuple(int(signs[at:at + 64][::-1], 2) for at in range(0, 256, 64))
    forms = [
        (len(row), 0, ("row", row)),
        (2 * len(firsts), 1, ("runs", tuple(zip(firsts, lasts)))),
        (32, 2, ("bits", words)),
    ]
    return min(forms)[2]


TOP = 16777215

# What is no number, whatever it is; NO_LOWS but what is one beyond the sacks.
NO_NUMBERS = [(name, wrong) for name, wrong in NO_LOWS if name != "256"] + [
    ("16777216", TOP + 1),
    ("2 ** 32", 2 ** 32),
    ("the class int", int),
]


def told_sacks(numbers):
    """The list of pairs (upper part, form) of some numbers, worked out by hand."""
    parts = {}
    for number in numbers:
        parts.setdefault(number // 256, set()).add(number % 256)
    return [(upper, told_form(parts[upper])) for upper in sorted(parts)]


def state(numbers):
    """All that a set tells without being asked for a number."""
    return numbers.numbers(), numbers.sacks(), numbers.count()


def told_state(numbers):
    """What a set of these numbers has to tell."""
    return sorted(set(numbers)), told_sacks(numbers), len(set(numbers))


def told_text(rising):
    """The text of some numbers, worked out one by one."""
    there = set(rising)
    parts = []
    for number in rising:
        if number - 1 not in there:
            last = number
            while last + 1 in there:
                last += 1
            parts.append(str(number) if last == number else str(number) + "-" + str(last))
    return ",".join(parts) or "none"


def some_lists():
    """Lists of numbers, told rising and each once."""
    forms = [
        upper * 256 + low
        for upper, (_, lows) in zip((0, 1, 2, 5, 6, 7, 300), each_sample()[::2])
        for low in lows
    ]
    return [
        [],
        [0],
        [255],
        [256],
        [TOP],
        [0, TOP],
        [255, 256],
        [0, 255, 256, 511, 512, 65535, 65536, TOP - 256, TOP - 255, TOP],
        list(range(250, 262)),
        list(range(256, 512)),
        list(range(255, 513)),
        list(range(100, 2100)),
        list(range(TOP - 600, TOP + 1)),
        list(range(1, 2000, 2)),
        list(range(0, 2000, 3)),
        [number for number in range(3000) if number % 100],
        [9973 * k for k in range(300)],
        forms,
    ]


def numbers_to_ask():
    """Numbers at the edges of sacks, of the samples, and of all."""
    near = [0, 1, 2, 99, 100, 101, 254, 255, 256, 257, 510, 511, 512, 513, 1023, 1024]
    far = [2099, 2100, 65535, 65536, 2981927, 9999999, TOP - 601, TOP - 600, TOP - 599]
    return near + far + [TOP - 256, TOP - 255, TOP - 1, TOP]
