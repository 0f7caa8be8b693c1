"""Sayings: their forms, a program's sayings, whether one is so, how one is written and read again."""

from sayswho.errors import NoSaying

LEAST_DIVISOR = 2
MOST_DIVISOR = 6
WIDEST_GAP = 20
WIDEST_SUM = 40

# In capitals what a saying's numbers are written as; other words stand in its text just so.
WRITTEN = {
    "is": ("BOX", "=", "NUMBER"),
    "from": ("BOX", ">=", "NUMBER"),
    "to": ("BOX", "<=", "NUMBER"),
    "rest": ("BOX", "rest", "NUMBER", "=", "NUMBER"),
    "either": ("BOX", "in", "NUMBER", "NUMBER"),
    "never": ("BOX", "not", "NUMBER"),
    "same": ("BOX", "=", "BOX"),
    "below": ("BOX", "<", "BOX"),
    "most": ("BOX", "<=", "BOX"),
    "gap": ("BOX", "-", "BOX", "=", "NUMBER"),
    "sum": ("BOX", "+", "BOX", "=", "NUMBER"),
    "adds": ("BOX", "+", "BOX", "=", "BOX"),
    "times": ("BOX", "*", "BOX", "=", "BOX"),
}
OF_ONE_BOX = ("is", "from", "to", "rest", "either", "never")


def with_number(form, boxes, above, below):
    told = []
    for place, box in enumerate(boxes):
        for n in range(box[1] + above, box[2] - below + 1):
            told.append((form, place, n))
    return told


def rests(boxes):
    told = []
    for place in range(len(boxes)):
        for m in range(LEAST_DIVISOR, MOST_DIVISOR + 1):
            told.extend([("rest", place, m, r) for r in range(m)])
    return told


def eithers(boxes):
    told = []
    for place, box in enumerate(boxes):
        for n in range(box[1], box[2]):
            told.extend([("either", place, n, k) for k in range(n + 1, box[2] + 1)])
    return told


def rising_pairs(boxes):
    pairs = []
    for a in range(len(boxes)):
        pairs.extend([(a, b) for b in range(a + 1, len(boxes))])
    return pairs


def unlike_pairs(boxes):
    pairs = []
    for a in range(len(boxes)):
        pairs.extend([(a, b) for b in range(len(boxes)) if b != a])
    return pairs


def with_pair(form, pairs):
    return [(form, a, b) for a, b in pairs]


def with_pair_and_number(form, boxes, widest):
    told = []
    for a, b in rising_pairs(boxes):
        told.extend([(form, a, b, n) for n in range(-widest, widest + 1)])
    return told


def gaps(boxes):
    # A gap of 0 is left to "same".
    return [saying for saying in with_pair_and_number("gap", boxes, WIDEST_GAP) if saying[3] != 0]


def with_three(form, boxes):
    told = []
    for a, b in rising_pairs(boxes):
        told.extend([(form, a, b, c) for c in range(len(boxes)) if c != a and c != b])
    return told


def sayings(program):
    boxes = program[0]
    return (
        with_number("is", boxes, 0, 0)
        + with_number("from", boxes, 1, 0)
        + with_number("to", boxes, 0, 1)
        + rests(boxes)
        + eithers(boxes)
        + with_number("never", boxes, 0, 0)
        + with_pair("same", rising_pairs(boxes))
        + with_pair("below", unlike_pairs(boxes))
        + with_pair("most", unlike_pairs(boxes))
        + gaps(boxes)
        + with_pair_and_number("sum", boxes, WIDEST_SUM)
        + with_three("adds", boxes)
        + with_three("times", boxes)
    )


def is_so_of_one(saying, a):
    form = saying[0]
    if form == "is":
        return a == saying[2]
    if form == "from":
        return a >= saying[2]
    if form == "to":
        return a <= saying[2]
    if form == "rest":
        return (a - saying[3]) % saying[2] == 0
    if form == "either":
        return a == saying[2] or a == saying[3]
    return a != saying[2]


def is_so_of_two(saying, a, b):
    form = saying[0]
    if form == "same":
        return a == b
    if form == "below":
        return a < b
    if form == "most":
        return a <= b
    if form == "gap":
        return a - b == saying[3]
    return a + b == saying[3]


def is_so(saying, values):
    form = saying[0]
    a = values[saying[1]]
    if form in OF_ONE_BOX:
        return is_so_of_one(saying, a)
    b = values[saying[2]]
    if form == "adds":
        return a + b == values[saying[3]]
    if form == "times":
        return a * b == values[saying[3]]
    return is_so_of_two(saying, a, b)


def shown_saying(program, saying):
    words = []
    place = 1
    for word in WRITTEN[saying[0]]:
        if word == "BOX":
            words.append(program[0][saying[place]][0])
            place += 1
        elif word == "NUMBER":
            words.append(str(saying[place]))
            place += 1
        else:
            words.append(word)
    return " ".join(words)


def read_saying(program, text):
    # No two sayings are written alike, so the one that is written just so is the one.
    for saying in sayings(program):
        if shown_saying(program, saying) == text:
            return saying
    raise NoSaying("none of the program's sayings")
