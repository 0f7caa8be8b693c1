"""Papers, which say at each mark what is so in every run: whether one is right, and its greatest right part."""

from sayswho.follows import all_values, bits_of, so_bits
from sayswho.machine import start_of
from sayswho.reader import mark_places
from sayswho.ways import standings_behind


# As in follows, many values are compared by bits: here one for each values at each mark, the first mark's lowest.
def bits_at_marks(places, every):
    at_marks = {}
    bit = 1
    for row in places.values():
        # From the last to the first, since so_bits has the first values highest.
        for values in reversed(every):
            at_marks[(row, values)] = bit
            bit = bit * 2
    return at_marks


def bits_behind(program, every, at_marks):
    behind = {}
    # Rows go on to the next one or to a mark: so from the last row to the first, what comes behind is known.
    for row in range(len(program[1]), -1, -1):
        for values in every:
            bits = 0
            for standing in standings_behind(program, (row, values)):
                bits = bits | (at_marks[standing] if standing in at_marks else behind[standing])
            behind[(row, values)] = bits
    return behind


class Checker:
    # What papers of a program are held against is reckoned once, since greatest needs it again and again.
    def __init__(self, program):
        places = mark_places(program[1])
        start = start_of(program)
        every = all_values(program)
        at_marks = bits_at_marks(places, every)
        behind = bits_behind(program, every, at_marks)
        self.every = every
        self.full = bits_of([True] * len(every))
        self.first = at_marks[start] if start in at_marks else behind[start]
        self.nexts = {}
        for mark, row in places.items():
            self.nexts[mark] = [behind[(row, values)] for values in reversed(every)]
        self.known = {}

    def so_of(self, saying):
        if saying not in self.known:
            self.known[saying] = so_bits(saying, self.every)
        return self.known[saying]

    def so_of_all(self, some):
        bits = self.full
        for saying in some:
            bits = bits & self.so_of(saying)
        return bits

    def come_to(self, paper):
        come = self.first
        for mark, some in paper:
            let_by = self.so_of_all(some)
            for behind in self.nexts[mark]:
                if let_by & 1 == 1:
                    come = come | behind
                let_by = let_by >> 1
        return come

    def unbroken(self, paper):
        come = self.come_to(paper)
        told = []
        for mark, some in paper:
            here = come & self.full
            told.append((mark, [saying for saying in some if here & self.so_of(saying) == here]))
            come = come >> len(self.every)
        return told


def is_right(program, paper):
    return Checker(program).unbroken(paper) == paper


def greatest(program, paper):
    checker = Checker(program)
    left = paper
    unbroken = checker.unbroken(left)
    # Whatever is struck lets more values by, which may break more.
    while unbroken != left:
        left = unbroken
        unbroken = checker.unbroken(left)
    return unbroken
