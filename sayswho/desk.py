"""The desk: rows told by a text each, and answered by a text."""

from sayswho.errors import NoForm, NoneYet, NoRow, NotSeen
from sayswho.follows import thinned
from sayswho.forms import read_saying, shown_saying
from sayswho.judge import judged, settled
from sayswho.keeper import Keeper
from sayswho.machine import run
from sayswho.reader import marks_of, read
from sayswho.words import is_name, number_of

MOST_NUMBERS = 40
ALONE = ("drop", "read", "settle")
OF_A_MARK = ("held", "judge")


def numbers_behind(text):
    words = text.split(" ")
    if len(words) > MOST_NUMBERS:
        raise NoForm("too many numbers")
    try:
        return [number_of(word) for word in words]
    except NoRow as error:
        raise NoForm("not a number") from error


def mark_and_saying(text):
    parts = text.partition(" ")
    if not is_name(parts[0]) or parts[1] == "":
        raise NoForm("not a mark and a saying")
    return [parts[0], parts[2]]


def order_of(row):
    if not isinstance(row, str) or "\n" in row:
        raise NoForm("not one row")
    parts = row.partition(" ")
    word = parts[0]
    if parts[1] == "":
        if word in ALONE:
            return (word, None)
        if word == "run":
            return (word, [])
    elif word == "row":
        return (word, parts[2])
    elif word == "run":
        return (word, numbers_behind(parts[2]))
    elif word in OF_A_MARK and is_name(parts[2]):
        return (word, parts[2])
    elif word == "why":
        return (word, mark_and_saying(parts[2]))
    raise NoForm("a row of none of the forms")


def with_blanks(parts):
    return " ".join([str(part) for part in parts])


def counted(verdicts):
    shown = verdicts.count("shown")
    undecided = verdicts.count("open")
    return [shown, len(verdicts) - shown - undecided, undecided]


class Desk:
    def __init__(self):
        self.lines = []
        self.keeper = None

    def say(self, row):
        order = order_of(row)
        word = order[0]
        if word == "row":
            return self.add_line(order[1])
        if word == "drop":
            return self.drop()
        if word == "read":
            return self.read_lines()
        if self.keeper is None:
            raise NoneYet("no program yet")
        if word == "run":
            return self.run_with(order[1])
        if word == "held":
            return self.tell_held(order[1])
        if word == "judge":
            return self.tell_judged(order[1])
        if word == "why":
            return self.tell_why(order[1][0], order[1][1])
        return self.settle()

    def add_line(self, line):
        self.lines.append(line)
        return "ok"

    def drop(self):
        self.lines = []
        return "ok"

    def read_lines(self):
        program = read("\n".join(self.lines))
        self.keeper = Keeper(program)
        return with_blanks(["marks", len(marks_of(program))])

    def run_with(self, numbers):
        end = run(self.keeper.program, numbers)[1]
        return with_blanks(list(end) + [self.keeper.run(numbers)])

    def tell_held(self, mark):
        some = self.keeper.held(mark)
        if some is None:
            return "unseen"
        program = self.keeper.program
        left = thinned(program, some)
        if len(left) == 0:
            return "none"
        return "; ".join([shown_saying(program, saying) for saying in left])

    def check_seen(self, mark):
        if self.keeper.held(mark) is None:
            raise NotSeen("a mark that wasn't passed")

    def judged_at(self, mark):
        told = judged(self.keeper.program, self.keeper.runs())
        return [each for each in told if each[0] == mark]

    def tell_judged(self, mark):
        self.check_seen(mark)
        return with_blanks(counted([each[2] for each in self.judged_at(mark)]))

    def tell_why(self, mark, text):
        # The mark comes ahead of the saying, and whether it was passed behind both.
        self.keeper.check_mark(mark)
        saying = read_saying(self.keeper.program, text)
        self.check_seen(mark)
        number = self.keeper.fell(mark, saying)
        if number is not None:
            return with_blanks(["fallen", number])
        verdict = [each[2] for each in self.judged_at(mark) if each[1] == saying][0]
        if verdict == "shown" or verdict == "open":
            return verdict
        return with_blanks([verdict[0]] + verdict[1])

    def settle(self):
        ahead = self.keeper.runs()
        more = settled(self.keeper.program, ahead)[len(ahead):]
        for numbers in more:
            self.keeper.run(numbers)
        hold = [len(self.keeper.held(mark) or []) for mark in marks_of(self.keeper.program)]
        return with_blanks([len(more), sum(hold)])
