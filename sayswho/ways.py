"""Ways: what comes next of a mark, what can be passed, and by which fewest numbers."""

from sayswho.machine import is_over, start_of, step
from sayswho.reader import mark_places, marks_of


def kind_at(program, standing):
    if is_over(program, standing):
        return "stop"
    return program[1][standing[0]][0]


def mark_at(program, standing):
    return (program[1][standing[0]][1], standing[1])


def asked_for(program, standing):
    box = program[0][program[1][standing[0]][1]]
    return list(range(box[1], box[2] + 1))


def standings_behind(program, standing):
    kind = kind_at(program, standing)
    if kind == "stop":
        return []
    if kind == "ask":
        return [step(program, standing, number) for number in asked_for(program, standing)]
    behind = step(program, standing, None)
    return [] if behind is None else [behind]


def marks_met(program, standings):
    met = {}
    stood = {}
    waiting = list(standings)
    while len(waiting) > 0:
        standing = waiting.pop()
        if standing in stood:
            continue
        stood[standing] = True
        if kind_at(program, standing) == "mark":
            met[mark_at(program, standing)] = True
        else:
            waiting.extend(standings_behind(program, standing))
    return sorted(met)


def next_of(program, mark, values):
    standing = (mark_places(program[1])[mark], values)
    return marks_met(program, standings_behind(program, standing))


def first_of(program):
    return marks_met(program, [start_of(program)])


def new_stretch(program, standing, stood):
    stretch = []
    while standing is not None and standing not in stood:
        stood[standing] = True
        stretch.append(standing)
        if kind_at(program, standing) in ("ask", "stop"):
            return stretch
        standing = step(program, standing, None)
    return stretch


# A way is None, where no number was taken, or (the way ahead, the last number): a way shares all but its
# end with others, so that long ones need no room of their own.
def numbers_of(way):
    numbers = []
    while way is not None:
        numbers.append(way[1])
        way = way[0]
    return list(reversed(numbers))


def ways_to_marks(program):
    found = {}
    stood = {}
    # Walked in the order in which they came, ways come by their length, and then by their numbers: so the
    # first that comes to a standing is its shortest, and no later one is needed.
    waiting = [(start_of(program), None)]
    done = 0
    while done < len(waiting):
        begun = waiting[done][0]
        way = waiting[done][1]
        for standing in new_stretch(program, begun, stood):
            kind = kind_at(program, standing)
            if kind == "mark":
                found[mark_at(program, standing)] = way
            elif kind == "ask":
                numbers = asked_for(program, standing)
                waiting.extend([(step(program, standing, number), (way, number)) for number in numbers])
        done += 1
    return found


def passable(program):
    marks = marks_of(program)
    passed = {}
    for mark in marks:
        passed[mark] = []
    for mark, values in list(ways_to_marks(program)):
        passed[mark].append(values)
    return [(mark, sorted(passed[mark])) for mark in marks]


def shortest(program, mark, values):
    found = ways_to_marks(program)
    if (mark, values) not in found:
        return None
    return numbers_of(found[(mark, values)])
