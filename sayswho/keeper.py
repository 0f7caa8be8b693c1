"""A keeper: the runs of a program, what holds in them, and by which run a saying fell."""

from sayswho.errors import NoMark
from sayswho.forms import is_so, sayings
from sayswho.machine import run
from sayswho.reader import marks_of


class Keeper:
    def __init__(self, program):
        # Lists of its own, since the asker may change those handed in.
        self.program = (list(program[0]), list(program[1]))
        self.inputs = []
        # Of each mark the values seen there, in order, each with the number of the run that saw it first.
        self.found = {}
        for mark in marks_of(program):
            self.found[mark] = {}
        # Only of marks that were passed.
        self.holding = {}

    def run(self, numbers):
        self.inputs.append(list(numbers))
        ahead = dict([(mark, len(some)) for mark, some in self.holding.items()])
        for mark, values in run(self.program, numbers)[0]:
            self.see(mark, values)
        return sum([count - len(self.holding[mark]) for mark, count in ahead.items()])

    def see(self, mark, values):
        if values in self.found[mark]:
            return
        self.found[mark][values] = len(self.inputs)
        some = self.holding[mark] if mark in self.holding else sayings(self.program)
        self.holding[mark] = [saying for saying in some if is_so(saying, values)]

    def check_mark(self, mark):
        if mark not in self.found:
            raise NoMark("a mark that there isn't")

    def held(self, mark):
        self.check_mark(mark)
        if mark not in self.holding:
            return None
        return list(self.holding[mark])

    def fell(self, mark, saying):
        self.check_mark(mark)
        for values, number in self.found[mark].items():
            if not is_so(saying, values):
                return number
        return None

    def runs(self):
        return [list(numbers) for numbers in self.inputs]
