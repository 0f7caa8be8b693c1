"""Programs run: one step, and whole runs."""

from sayswho.words import worth


def named_values(program, values):
    return dict([(box[0], value) for box, value in zip(program[0], values)])


def filled(program, standing, place, number):
    box = program[0][place]
    if not box[1] <= number <= box[2]:
        return None
    values = standing[1]
    return (standing[0] + 1, values[:place] + (number,) + values[place + 1:])


def holds(program, statement, values):
    named = named_values(program, values)
    left = worth(statement[2], named)
    right = worth(statement[3], named)
    if statement[1] == "<":
        return left < right
    return left == right


def step(program, standing, number):
    values = standing[1]
    statement = program[1][standing[0]]
    kind = statement[0]
    if kind == "ask":
        return filled(program, standing, statement[1], number)
    if kind == "put":
        reckoned = worth(statement[2], named_values(program, values))
        return filled(program, standing, statement[1], reckoned)
    if kind == "go":
        return (statement[1], values)
    if kind == "if" and holds(program, statement, values):
        return (statement[4], values)
    return (standing[0] + 1, values)


def start_of(program):
    return (0, tuple([box[3] for box in program[0]]))


def is_over(program, standing):
    rows = program[1]
    return standing[0] == len(rows) or rows[standing[0]][0] == "stop"


def run(program, numbers):
    standing = start_of(program)
    passed = []
    stood = {}
    taken = 0
    while not is_over(program, standing):
        if standing in stood:
            return (passed, ("round",))
        stood[standing] = True
        statement = program[1][standing[0]]
        number = None
        if statement[0] == "ask":
            if taken == len(numbers):
                return (passed, ("out",))
            number = numbers[taken]
            taken += 1
            # A standing from ahead of a taken number may come again.
            stood = {}
        elif statement[0] == "mark":
            passed.append((statement[1], standing[1]))
        behind = step(program, standing, number)
        if behind is None:
            return (passed, ("far", standing[0]))
        standing = behind
    return (passed, ("end",))
