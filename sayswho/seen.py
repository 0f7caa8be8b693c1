"""What was seen at each mark in some runs, and which sayings held there."""

from sayswho.forms import is_so, sayings
from sayswho.machine import run
from sayswho.reader import marks_of


def seen(program, runs):
    marks = marks_of(program)
    found = {}
    for mark in marks:
        found[mark] = {}
    for numbers in runs:
        for mark, values in run(program, numbers)[0]:
            # Values that were seen before keep their first place in the dict.
            found[mark][values] = True
    return [(mark, list(found[mark])) for mark in marks]


def is_so_of_all(saying, some):
    for values in some:
        if not is_so(saying, values):
            return False
    return True


def held(program, runs, mark):
    there = dict(seen(program, runs))[mark]
    if len(there) == 0:
        return None
    return [saying for saying in sayings(program) if is_so_of_all(saying, there)]
