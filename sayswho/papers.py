"""Papers, which say at each mark what is so in every run: whether one is right, and its greatest right part."""

from sayswho.follows import all_values, bits_of, so_bits
from sayswho.machine import start_of
from sayswho.reader import mark_places
from sayswho.ways import kind_at, mark_at, standings_behind


# As in follows, many values are compared by bits, one for each of all values. What can be come to is a dict of
# marks and bits: the values with which each is come to.
def bit_of_each(every):
    told = {}
    bit = 1
    # From the last to the first, since so_bits has the first values highest.
    for values in reversed(every):
        told[values] = bit
        bit = bit * 2
    return told


def put_together(come, more):
    for mark, bits in more.items():
        come[mark] = come.get(mark, 0) | bits


def come_from(program, standing, bits, behind):
    if kind_at(program, standing) != "mark":
        return behind[standing]
    passed = mark_at(program, standing)
    return {passed[0]: bits[passed[1]]}


def come_behind(program, every, bits):
    behind = {}
    # Rows go on to the next one or to a mark: so from the last row to the first, what comes behind is known.
    for row in range(len(program[1]), -1, -1):
        for values in every:
            come = {}
            for standing in standings_behind(program, (row, values)):
                put_together(come, come_from(program, standing, bits, behind))
            behind[(row, values)] = come
    return behind


class Checker:
    # What papers of a program are held against is reckoned once, since greatest needs it again and again.
    def __init__(self, program):
        every = all_values(program)
        bits = bit_of_each(every)
        behind = come_behind(program, every, bits)
        self.every = every
        self.full = bits_of([True] * len(every))
        self.first = come_from(program, start_of(program), bits, behind)
        # Of each mark what comes next, in the order of the bits from the lowest on.
        self.nexts = {}
        for mark, row in mark_places(program[1]).items():
            self.nexts[mark] = [behind[(row, values)] for values in reversed(every)]
        self.known = {}

    def so_of(self, saying):
        if saying not in self.known:
            self.known[saying] = so_bits(saying, self.every)
        return self.known[saying]

    def so_of_all(self, some):
        bits = self.full
        for saying in some:
            bits = bits & self.so_of(saying)
        return bits

    def come_to(self, paper):
        come = dict(self.first)
        for mark, some in paper:
            let_by = self.so_of_all(some)
            for behind in self.nexts[mark]:
                if let_by & 1 == 1:
                    put_together(come, behind)
                let_by = let_by >> 1
        return come

    def unbroken(self, paper):
        come = self.come_to(paper)
        told = []
        for mark, some in paper:
            here = come.get(mark, 0)
            told.append((mark, [saying for saying in some if here & self.so_of(saying) == here]))
        return told


def is_right(program, paper):
    return Checker(program).unbroken(paper) == paper


def greatest(program, paper):
    checker = Checker(program)
    left = paper
    unbroken = checker.unbroken(left)
    # Whatever is struck lets more values by, which may break more.
    while unbroken != left:
        left = unbroken
        unbroken = checker.unbroken(left)
    return unbroken
