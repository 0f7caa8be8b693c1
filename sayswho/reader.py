"""Programs, read from their texts."""

from sayswho.errors import Full, NoBox, NoMark, NoMeasure, NoPlace, NoRow, TooLong, Twice
from sayswho.words import expression, is_name, number_of

MOST_ROWS = 60
MOST_BOXES = 4
MOST_MARKS = 8
LOWEST = -99
HIGHEST = 99
WIDEST = 19
MOST_VALUES = 400

# In capitals what a word is read as; other words stand in a row just so.
READ_AS = ("NAME", "NUMBER", "E")
FORMS = (
    ("box", "NAME", "NUMBER", "NUMBER", "NUMBER"),
    ("mark", "NAME"),
    ("ask", "NAME"),
    ("put", "NAME", "E"),
    ("go", "NAME"),
    ("if", "E", "<", "E", "go", "NAME"),
    ("if", "E", "=", "E", "go", "NAME"),
    ("stop",),
)


def fits(words, form):
    if len(words) != len(form):
        return False
    return all([slot in READ_AS or slot == word for slot, word in zip(form, words)])


def part_of(word, slot):
    if slot == "NUMBER":
        return number_of(word)
    if slot == "E":
        return expression(word)
    if slot == "NAME" and not is_name(word):
        raise NoRow("not a name")
    return word


def parts_of(line):
    words = line.split(" ")
    for form in FORMS:
        if fits(words, form):
            return [part_of(word, slot) for slot, word in zip(form, words)]
    raise NoRow("a row of none of the forms")


def count_of(box):
    return box[2] - box[1] + 1


def in_measure(box, boxes):
    low = box[1]
    high = box[2]
    if low < LOWEST or high > HIGHEST or high - low > WIDEST:
        return False
    if not low <= box[3] <= high:
        return False
    product = count_of(box)
    for other in boxes:
        product *= count_of(other)
    return product <= MOST_VALUES


def box_of(parts, boxes, rows):
    box = tuple(parts[1:])
    if len(rows) > 0:
        raise NoPlace("a box behind a statement")
    if not in_measure(box, boxes):
        raise NoMeasure("a box out of its measure")
    if box[0] in [other[0] for other in boxes]:
        raise Twice("a box with the name of one ahead")
    if len(boxes) == MOST_BOXES:
        raise Full("too many boxes")
    return box


def mark_of(parts, rows):
    marks = mark_names(rows)
    if parts[1] in marks:
        raise Twice("a mark with the name of one ahead")
    if len(marks) == MOST_MARKS:
        raise Full("too many marks")
    return ("mark", parts[1])


def place_of(name, boxes):
    for place, box in enumerate(boxes):
        if box[0] == name:
            return place
    raise NoBox("a name that is no box's")


def check_boxes(e, boxes):
    if e[0] == "box":
        place_of(e[1], boxes)
    elif e[0] != "number":
        check_boxes(e[1], boxes)
        check_boxes(e[2], boxes)


def put_of(parts, boxes):
    check_boxes(parts[2], boxes)
    return ("put", place_of(parts[1], boxes), parts[2])


def if_of(parts, boxes):
    check_boxes(parts[1], boxes)
    check_boxes(parts[3], boxes)
    return ("if", parts[2], parts[1], parts[3], parts[5])


def statement_of(parts, boxes, rows):
    if parts[0] == "mark":
        return mark_of(parts, rows)
    if parts[0] == "ask":
        return ("ask", place_of(parts[1], boxes))
    if parts[0] == "put":
        return put_of(parts, boxes)
    if parts[0] == "if":
        return if_of(parts, boxes)
    return tuple(parts)


def mark_names(rows):
    return [row[1] for row in rows if row[0] == "mark"]


def mark_places(rows):
    places = {}
    for place, row in enumerate(rows):
        if row[0] == "mark":
            places[row[1]] = place
    return places


def aimed(row, places):
    if row[0] != "go" and row[0] != "if":
        return row
    if row[-1] not in places:
        raise NoMark("a row goes to a mark that there isn't")
    return row[:-1] + (places[row[-1]],)


def read(text):
    lines = text.split("\n")
    if len(lines) > MOST_ROWS:
        raise TooLong("too many rows")
    boxes = []
    rows = []
    for line in lines:
        parts = parts_of(line)
        if parts[0] == "box":
            boxes.append(box_of(parts, boxes, rows))
        else:
            rows.append(statement_of(parts, boxes, rows))
    if len(boxes) == 0:
        raise NoBox("no box at all")
    # A row may go to a mark behind it: only now are the marks all known.
    places = mark_places(rows)
    return (boxes, [aimed(row, places) for row in rows])


def marks_of(program):
    return mark_names(program[1])
