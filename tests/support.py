"""What the tests share: answers held to their very kinds, refusals to their very class, lists to their owners."""

import itertools
import unittest


class Case(unittest.TestCase):
    def just(self, told, expected):
        # The written form parts True from 1, a list from a tuple, and either from its own subclasses.
        self.assertEqual(repr(told), repr(expected))

    def refused(self, error, function, *arguments):
        try:
            told = function(*arguments)
        except Exception as raised:
            self.assertIs(type(raised), error, f"{arguments!r:.200} raised {raised!r:.200}")
        else:
            self.fail(f"{arguments!r:.200} told {told!r:.200}, not {error.__name__}")

    def asked(self, function, *arguments):
        # What is handed in stays, and no list that is told is one that was handed in, or told twice.
        kept = repr(arguments)
        told = function(*arguments)
        self.assertEqual(repr(arguments), kept)
        taken = {id(each) for each in lists_in(arguments)}
        for each in lists_in(told):
            self.assertNotIn(id(each), taken, f"{arguments!r:.200} told {told!r:.200}")
            taken.add(id(each))
        return told

    def answers(self, expected, function, *arguments):
        self.just(self.asked(function, *arguments), expected)

    def own(self, function, *arguments):
        # Told lists that are changed behind change nothing of what is told before or later.
        first = self.asked(function, *arguments)
        second = self.asked(function, *arguments)
        written = repr(first)
        lists = lists_in(first) + lists_in(second)
        self.assertEqual(len({id(each) for each in lists}), len(lists))
        for each in lists_in(first):
            each.clear()
            each.append("more")
        self.assertEqual(repr(second), written)
        self.assertEqual(repr(function(*arguments)), written)


def lists_in(told):
    if not isinstance(told, (list, tuple)):
        return []
    found = [told] if isinstance(told, list) else []
    for part in told:
        found += lists_in(part)
    return found


def rows(*lines):
    return "\n".join(lines)


def every(program):
    return list(itertools.product(*[range(low, high + 1) for _, low, high, _ in program[0]]))


def made_expression(chance, names):
    first = chance.choice(names + "012")
    if chance.random() < 0.4:
        return first
    return first + chance.choice("+-*") + chance.choice(names + "012")


def made_statement(chance, names):
    kind = chance.choice(["ask", "ask", "put", "put", "go", "if", "if", "if", "stop"])
    if kind == "ask":
        return "ask " + chance.choice(names)
    if kind == "put":
        return "put " + chance.choice(names) + " " + made_expression(chance, names)
    if kind == "go":
        return "go " + chance.choice("mnk")
    if kind == "if":
        left, sign, right = made_expression(chance, names), chance.choice("<="), made_expression(chance, names)
        return f"if {left} {sign} {right} go {chance.choice('mnk')}"
    return "stop"


def made_text(chance, *boxes):
    # A program's text: the boxes (rows, each box named by one letter), then three marks and statements in any order.
    names = "".join([box.split(" ")[1] for box in boxes])
    body = ["mark m", "mark n", "mark k"] + [made_statement(chance, names) for _ in range(8)]
    chance.shuffle(body)
    return rows(*boxes, *body)
