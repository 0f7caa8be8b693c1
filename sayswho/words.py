"""Words: names, numbers, expressions, and what an expression is worth."""

from sayswho.errors import NoRow

TAKEN = ("box", "mark", "ask", "put", "go", "if", "stop", "in", "not")
LETTERS = "abcdefghijklmnopqrstuvwxyz"
FIGURES = "0123456789"
MOST_LETTERS = 8
MOST_FIGURES = 3
MOST_SIGNS = 60
MOST_BRACKETS = 5


def all_among(word, signs):
    return all([sign in signs for sign in word])


def is_name(word):
    # The length comes first, so that a word of thousands of signs isn't walked.
    if not 1 <= len(word) <= MOST_LETTERS:
        return False
    return all_among(word, LETTERS) and word not in TAKEN


def are_figures(word):
    if not 1 <= len(word) <= MOST_FIGURES or not all_among(word, FIGURES):
        return False
    return word == "0" or word[0] != "0"


def number_of(word):
    figures = word[1:] if word.startswith("-") else word
    if not are_figures(figures) or word == "-0":
        raise NoRow("not a number")
    return int(word)


class Reading:
    # An object keeps the place, since all the functions below move it on.
    def __init__(self, word):
        self.word = word
        self.place = 0

    def stands_at(self, signs):
        return self.place < len(self.word) and self.word[self.place] in signs

    def take(self):
        sign = self.word[self.place]
        self.place += 1
        return sign

    def take_all(self, signs):
        start = self.place
        while self.stands_at(signs):
            self.place += 1
        return self.word[start:self.place]


def expression(word):
    # The length also bounds how deep the reading goes.
    if len(word) > MOST_SIGNS:
        raise NoRow("an expression of too many signs")
    reading = Reading(word)
    e = terms(reading, 0)
    if reading.place < len(word):
        raise NoRow("an expression with signs left over")
    return e


def terms(reading, depth):
    e = factors(reading, depth)
    while reading.stands_at("+-"):
        sign = reading.take()
        e = (sign, e, factors(reading, depth))
    return e


def factors(reading, depth):
    e = factor(reading, depth)
    while reading.stands_at("*"):
        sign = reading.take()
        e = (sign, e, factor(reading, depth))
    return e


def factor(reading, depth):
    if reading.stands_at("("):
        return bracketed(reading, depth + 1)
    if reading.stands_at(FIGURES):
        return ("number", number_of(reading.take_all(FIGURES)))
    name = reading.take_all(LETTERS)
    if not is_name(name):
        raise NoRow("an expression that lacks a factor")
    return ("box", name)


def bracketed(reading, depth):
    if depth > MOST_BRACKETS:
        raise NoRow("too many brackets within one another")
    reading.take()
    e = terms(reading, depth)
    if not reading.stands_at(")"):
        raise NoRow("a bracket that isn't shut")
    reading.take()
    return e


def worth(e, values):
    if e[0] == "number":
        return e[1]
    if e[0] == "box":
        return values[e[1]]
    left = worth(e[1], values)
    right = worth(e[2], values)
    if e[0] == "+":
        return left + right
    if e[0] == "-":
        return left - right
    return left * right
