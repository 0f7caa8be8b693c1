"""Sayings that held judged (shown, broken or open), and runs settled."""

from sayswho.forms import is_so, sayings
from sayswho.keeper import Keeper
from sayswho.papers import greatest
from sayswho.reader import marks_of
from sayswho.ways import numbers_of, ways_to_marks


def keeper_of(program, runs):
    keeper = Keeper(program)
    for numbers in runs:
        keeper.run(numbers)
    return keeper


def ways_by_mark(program):
    told = {}
    for mark in marks_of(program):
        told[mark] = []
    # Ways are found from the shortest on, and so each mark's stand in this order too.
    for passed, way in ways_to_marks(program).items():
        told[passed[0]].append((passed[1], way))
    return told


def breaking(saying, ways):
    for values, way in ways:
        if not is_so(saying, values):
            return numbers_of(way)
    return None


def shown_at_marks(program, found):
    paper = [(mark, sayings(program) if some is None else some) for mark, some in found]
    shown = {}
    for mark, some in greatest(program, paper):
        shown[mark] = dict([(saying, True) for saying in some])
    return shown


def verdict_of(saying, shown, ways):
    if saying in shown:
        return "shown"
    numbers = breaking(saying, ways)
    return "open" if numbers is None else ("broken", numbers)


def judged(program, runs):
    keeper = keeper_of(program, runs)
    found = [(mark, keeper.held(mark)) for mark in marks_of(program)]
    shown = shown_at_marks(program, found)
    ways = ways_by_mark(program)
    told = []
    for mark, some in found:
        if some is not None:
            told.extend([(mark, saying, verdict_of(saying, shown[mark], ways[mark])) for saying in some])
    return told


def pass_all(keeper, ways):
    for mark, some in ways.items():
        if len(some) > 0 and keeper.held(mark) is None:
            keeper.run(numbers_of(some[0][1]))


def break_all(keeper, mark, ways):
    # What is no longer held falls out, and what no way breaks stays so: one walk in order is enough.
    for saying in keeper.held(mark):
        numbers = breaking(saying, ways)
        if numbers is not None and keeper.fell(mark, saying) is None:
            keeper.run(numbers)


def settled(program, runs):
    keeper = keeper_of(program, runs)
    ways = ways_by_mark(program)
    pass_all(keeper, ways)
    for mark, some in ways.items():
        if len(some) > 0:
            break_all(keeper, mark, some)
    return keeper.runs()
