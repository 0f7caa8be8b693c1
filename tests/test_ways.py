import copy
import itertools
import random
import unittest

from support import Case, every, made_text, rows
from sayswho.machine import run
from sayswho.reader import marks_of, read
from sayswho.ways import first_of, next_of, passable, shortest

GREAT = 10 ** 30 - 1

LOOP = read(rows("box a -1 3 0", "mark top", "ask a", "if a < 1 go top", "mark more", "if a = 3 go top", "put a a+1",
                 "mark less"))
PROGRAMS = (
    LOOP,
    read(rows("box a 0 2 0", "box b 0 1 0", "mark m", "ask a", "if a < 1 go n", "ask b", "if b = 1 go m", "mark k",
              "put b a", "mark n", "put a a+b", "if a = 2 go m", "stop")),
    read(rows("box a -2 1 0", "ask a", "mark m", "if a < 0 go n", "put a a-1", "ask a", "put a a*a", "mark n")),
)


def inputs(program, longest):
    # Also numbers that no box may hold.
    low = min(box[1] for box in program[0]) - 1
    high = max(box[2] for box in program[0]) + 1
    for count in range(longest + 1):
        for numbers in itertools.product(range(low, high + 1), repeat=count):
            yield list(numbers)


def first_inputs(program, longest):
    # The inputs come by their length, then by their numbers: the first that passes is the shortest.
    told = {}
    for numbers in inputs(program, longest):
        for passed in run(program, numbers)[0]:
            told.setdefault(passed, numbers)
    return told


def begun_at(program, mark, values):
    # The same program, but that its runs begin at the mark with the values.
    boxes = [(name, low, high, value) for (name, low, high, _), value in zip(program[0], values)]
    moved = [row[:-1] + (row[-1] + 1,) if row[0] in ("go", "if") else row for row in program[1]]
    return (boxes, [("go", moved.index(("mark", mark)) + 1)] + moved)


def made(chance):
    return read(made_text(chance, "box a -1 1 0", "box b 0 1 1"))


class Next(Case):
    def comes(self, program, mark, values, *expected):
        with self.subTest(mark=mark, values=values):
            self.answers(list(expected), next_of, program, mark, values)

    def test_straight_on(self):
        program = read(rows("box a 0 9 0", "mark m", "put a a+1", "mark n", "mark k"))
        self.comes(program, "m", (3,), ("n", (4,)))
        self.comes(program, "n", (3,), ("k", (3,)))
        self.comes(program, "k", (3,))

    def test_the_same_mark_again(self):
        program = read(rows("box a 0 3 0", "mark m", "put a a+1", "go m"))
        self.comes(program, "m", (0,), ("m", (1,)))
        self.comes(program, "m", (2,), ("m", (3,)))
        self.comes(program, "m", (3,))
        program = read(rows("box a 0 2 0", "mark m", "ask a", "go m"))
        for n in range(3):
            self.comes(program, "m", (n,), ("m", (0,)), ("m", (1,)), ("m", (2,)))

    def test_the_same_mark_with_the_same_values(self):
        program = read(rows("box a 0 3 0", "mark m", "go m"))
        self.comes(program, "m", (2,), ("m", (2,)))
        program = read(rows("box a 0 3 0", "mark m", "put a 3", "go m"))
        self.comes(program, "m", (3,), ("m", (3,)))
        self.comes(program, "m", (1,), ("m", (3,)))

    def test_marks_that_go_round_among_one_another(self):
        program = read(rows("box a 0 3 0", "mark m", "mark n", "go m"))
        self.comes(program, "m", (2,), ("n", (2,)))
        self.comes(program, "n", (2,), ("m", (2,)))

    def test_by_numbers_asked_for(self):
        self.comes(LOOP, "top", (0,), ("more", (1,)), ("more", (2,)), ("more", (3,)), ("top", (-1,)), ("top", (0,)))
        self.comes(LOOP, "top", (3,), ("more", (1,)), ("more", (2,)), ("more", (3,)), ("top", (-1,)), ("top", (0,)))
        self.comes(LOOP, "more", (3,), ("top", (3,)))
        self.comes(LOOP, "more", (-1,), ("less", (0,)))
        self.comes(LOOP, "more", (2,), ("less", (3,)))
        self.comes(LOOP, "less", (2,))

    def test_two_asks_between(self):
        program = read(rows("box a 0 1 0", "box b -1 0 0", "mark m", "ask b", "ask a", "put b b*a", "mark n"))
        for values in every(program):
            self.comes(program, "m", values, ("n", (0, 0)), ("n", (1, -1)), ("n", (1, 0)))

    def test_a_box_asked_for_twice(self):
        program = read(rows("box a 0 2 0", "box b 0 2 0", "mark m", "ask a", "if a = 2 go n", "put b a", "ask a", "mark n"))
        self.comes(program, "m", (0, 1), ("n", (0, 0)), ("n", (0, 1)), ("n", (1, 0)), ("n", (1, 1)), ("n", (2, 0)),
                   ("n", (2, 1)))

    def test_sorted_by_the_name_first(self):
        program = read(rows("box a -1 2 0", "mark z", "ask a", "if a = 2 go a", "if a = 1 go ab", "if a = 0 go b", "mark c",
                            "mark a", "mark ab", "mark b"))
        self.comes(program, "z", (0,), ("a", (2,)), ("ab", (1,)), ("b", (0,)), ("c", (-1,)))
        program = read(rows("box a -10 9 0", "mark m", "ask a", "mark n"))
        self.comes(program, "m", (0,), *[("n", (n,)) for n in range(-10, 10)])

    def test_unlike(self):
        program = read(rows("box a 0 9 0", "box b 0 3 0", "mark m", "ask a", "put a 0", "mark n"))
        self.comes(program, "m", (5, 3), ("n", (0, 3)))

    def test_a_number_that_the_box_may_not_hold(self):
        program = read(rows("box a 0 9 0", "mark m", "put a a*2", "mark n"))
        self.comes(program, "m", (4,), ("n", (8,)))
        self.comes(program, "m", (5,))
        program = read(rows("box a 0 4 0", "mark m", "ask a", "put a a-2", "mark n"))
        self.comes(program, "m", (4,), ("n", (0,)), ("n", (1,)), ("n", (2,)))
        program = read(rows("box a -2 0 0", "mark m", "put a a-1", "mark n"))
        self.comes(program, "m", (-2,))
        self.comes(program, "m", (-1,), ("n", (-2,)))

    def test_runs_that_end_before_a_mark(self):
        self.comes(read(rows("box a 0 9 0", "mark m")), "m", (3,))
        self.comes(read(rows("box a 0 9 0", "mark m", "put a 3")), "m", (3,))
        self.comes(read(rows("box a 0 9 0", "mark m", "ask a")), "m", (3,))
        self.comes(read(rows("box a 0 9 0", "mark m", "stop", "mark n")), "m", (3,))
        self.comes(read(rows("box a 0 9 0", "mark m", "ask a", "stop", "mark n")), "m", (3,))
        program = read(rows("box a 0 9 0", "mark m", "ask a", "if 7 < a go n", "stop", "mark n"))
        self.comes(program, "m", (3,), ("n", (8,)), ("n", (9,)))

    def test_runs_that_go_round_before_a_mark(self):
        # By its text a row goes to marks alone; a program that is handed in may go round without one.
        boxes = [("a", 0, 2, 0)]
        self.comes((boxes, [("mark", "m"), ("go", 1), ("mark", "n")]), "m", (1,))
        program = (boxes, [("mark", "m"), ("ask", 0), ("if", "=", ("box", "a"), ("number", 1), 2), ("mark", "n")])
        self.comes(program, "m", (0,), ("n", (0,)), ("n", (2,)))
        program = (boxes, [("mark", "m"), ("ask", 0), ("put", 0, ("-", ("number", 2), ("box", "a"))), ("go", 2)])
        self.comes(program, "m", (0,))
        program = (boxes, [("mark", "m"), ("ask", 0), ("if", "<", ("box", "a"), ("number", 2), 1), ("mark", "n")])
        self.comes(program, "m", (0,), ("n", (2,)))

    def test_values_that_no_run_can_pass(self):
        program = read(rows("box a 0 9 0", "box b 0 9 5", "mark m", "if a < b go n", "mark k", "stop", "mark n", "put a 1"))
        self.just(dict(passable(program)), {"m": [(0, 5)], "k": [], "n": [(0, 5)]})
        self.comes(program, "m", (7, 8), ("n", (7, 8)))
        self.comes(program, "m", (8, 8), ("k", (8, 8)))
        self.comes(program, "k", (1, 2))
        program = read(rows("box a 0 9 0", "stop", "mark m", "ask a", "if a < 9 go m", "mark n"))
        self.comes(program, "m", (4,), *[("m", (n,)) for n in range(9)], ("n", (9,)))

    def test_marks_that_bear_boxes_names(self):
        program = read(rows("box a 0 9 0", "box b 0 9 0", "mark b", "put a b", "mark a", "put b a+1"))
        self.comes(program, "b", (1, 2), ("a", (2, 2)))
        self.comes(program, "a", (1, 2))

    def test_an_ask_of_a_box_of_twenty_numbers(self):
        program = read(rows("box a -10 9 0", "mark m", "ask a", "if a < 0 go m", "mark n"))
        expected = [("m", (n,)) for n in range(-10, 0)] + [("n", (n,)) for n in range(10)]
        self.comes(program, "m", (9,), *expected)

    def test_four_hundred_values(self):
        program = read(rows("box a 0 19 0", "box b -10 9 0", "mark m", "ask a", "ask b", "mark n", "if a < b go m",
                            "ask a", "mark k"))
        self.comes(program, "m", (3, 3), *[("n", values) for values in every(program)])
        self.comes(program, "n", (3, 4), ("m", (3, 4)))
        self.comes(program, "n", (3, 3), *[("k", (n, 3)) for n in range(20)])

    def test_more_than_four_hundred_values(self):
        program = ([("a", 0, 24, 0), ("b", 0, 24, 0)],
                   [("mark", "m"), ("ask", 0), ("ask", 1), ("mark", "n")])
        self.comes(program, "m", (3, 3), *[("n", values) for values in every(program)])
        self.answers([24, 24], shortest, program, "n", (24, 24))

    def test_a_long_way_between(self):
        program = read(rows("box a 0 19 0", "box b 0 19 0", "mark m", *["put a a"] * 27, *["ask b"] * 20, "mark n"))
        self.comes(program, "m", (7, 0), *[("n", (7, n)) for n in range(20)])

    def test_by_all_inputs(self):
        for program in PROGRAMS:
            for mark, values in itertools.product(marks_of(program), every(program)):
                expected = set()
                for numbers in inputs(program, 3):
                    passed = run(begun_at(program, mark, values), numbers)[0]
                    expected.update(passed[1:2])
                with self.subTest(mark=mark, values=values):
                    self.answers(sorted(expected), next_of, program, mark, values)

    def test_the_told_list_is_the_askers_own(self):
        for mark in marks_of(LOOP):
            for values in every(LOOP):
                self.own(next_of, LOOP, mark, values)

    def test_a_program_changed_behind(self):
        program = copy.deepcopy(LOOP)
        told = next_of(program, "more", (3,))
        program[1][4] = ("stop",)
        self.just(told, [("top", (3,))])
        self.answers([], next_of, program, "more", (3,))


class First(Case):
    def comes(self, text, *expected):
        with self.subTest(text=text):
            self.answers(list(expected), first_of, read(text))

    def test_a_first_statement_that_is_a_mark(self):
        self.comes(rows("box a 0 9 4", "mark m"), ("m", (4,)))
        self.comes(rows("box a 0 9 4", "box b -3 3 -2", "mark m", "ask a", "mark n", "go m"), ("m", (4, -2)))
        self.comes(rows("box a 0 9 4", "mark m", "go m"), ("m", (4,)))
        self.comes(rows("box a 0 9 4", "mark m", "mark n"), ("m", (4,)))

    def test_a_mark_behind_others(self):
        self.comes(rows("box a 0 9 4", "put a a+1", "mark m", "put a 0", "mark n"), ("m", (5,)))
        self.comes(rows("box a 0 9 4", "if a < 4 go m", "put a 2", "if a < 4 go m", "mark n", "mark m"), ("m", (2,)))
        self.comes(rows("box a 0 9 4", "go n", "mark m", "mark n", "go m"), ("n", (4,)))

    def test_by_numbers_asked_for(self):
        self.comes(rows("box a -1 2 0", "ask a", "if a < 1 go z", "mark b", "stop", "mark z"),
                   ("b", (1,)), ("b", (2,)), ("z", (-1,)), ("z", (0,)))
        self.comes(rows("box a 0 1 0", "box b 0 1 1", "ask a", "if a = 1 go m", "ask b", "mark m"),
                   ("m", (0, 0)), ("m", (0, 1)), ("m", (1, 1)))

    def test_a_start_from_which_no_mark_is_come_to(self):
        self.comes("box a 0 9 4")
        self.comes(rows("box a 0 9 4", "stop", "mark m"))
        self.comes(rows("box a 0 9 4", "ask a"))
        self.comes(rows("box a 0 9 4", "ask a", "put a a+10", "mark m"))
        self.comes(rows("box a 0 9 4", "put a 10", "mark m"))
        self.comes(rows("box a 0 9 4", "ask a", "stop", "mark m"))
        self.answers([], first_of, ([("a", 0, 9, 4)], [("go", 0), ("mark", "m")]))
        self.answers([], first_of, ([("a", 0, 9, 4)], [("ask", 0), ("go", 0), ("mark", "m")]))

    def test_twenty_numbers_and_four_hundred_values(self):
        self.comes(rows("box a -19 0 0", "ask a", "mark m", "ask a", "mark n"), *[("m", (n,)) for n in range(-19, 1)])
        text = rows("box a 0 19 0", "box b 0 19 0", "ask a", "ask b", "if b < a go n", "mark m", "mark n")
        told = every(read(text))
        self.comes(text, *[("m", values) for values in told if values[0] <= values[1]],
                   *[("n", values) for values in told if values[1] < values[0]])

    def test_the_told_list_is_the_askers_own(self):
        self.own(first_of, LOOP)
        self.own(first_of, read("box a 0 9 4"))
        self.own(first_of, read(rows("box a 0 9 4", "ask a", "mark m")))


class Passable(Case):
    def test_each_mark_in_order(self):
        self.answers([("top", [(-1,), (0,), (3,)]), ("more", [(1,), (2,), (3,)]), ("less", [(2,), (3,)])], passable, LOOP)
        program = read(rows("box a 0 9 4", "go b", "mark c", "stop", "mark b", "mark a", "put a 1", "go c", "mark zero"))
        self.answers([("c", [(1,)]), ("b", [(4,)]), ("a", [(4,)]), ("zero", [])], passable, program)

    def test_marks_that_no_run_passes(self):
        self.answers([("m", [])], passable, read(rows("box a 0 9 4", "stop", "mark m")))
        self.answers([("m", [])], passable, read(rows("box a 0 9 4", "put a 10", "mark m")))
        self.answers([("m", [(4,)]), ("n", [])], passable, read(rows("box a 0 9 4", "mark m", "go m", "mark n")))
        self.answers([("m", []), ("n", [(n,) for n in range(10)])], passable,
                     read(rows("box a 0 9 4", "ask a", "if 9 < a go m", "go n", "mark m", "mark n")))

    def test_no_marks(self):
        self.answers([], passable, read("box a 0 9 4"))
        self.answers([], passable, read(rows("box a 0 9 4", "ask a", "stop")))

    def test_sorted(self):
        program = read(rows("box a -5 5 5", "box b -1 1 0", "mark m", "if a = 0-5 go done", "put a a-1", "put b 0-b", "go m",
                            "mark done"))
        self.answers([("m", [(n, 0) for n in range(-5, 6)]), ("done", [(-5, 0)])], passable, program)
        program = read(rows("box a -2 2 2", "box b 0 1 0", "mark m", "ask b", "put a a-1", "go m"))
        self.answers([("m", sorted([(2, 0)] + [(a, b) for a in (-2, -1, 0, 1) for b in (0, 1)]))], passable, program)

    def test_runs_that_go_round_ahead_of_an_ask(self):
        program = read(rows("box a 0 3 0", "mark m", "ask a", "mark n", "if a = 1 go n", "mark k", "ask a", "go m"))
        self.answers([("m", [(0,), (1,), (2,), (3,)]), ("n", [(0,), (1,), (2,), (3,)]), ("k", [(0,), (2,), (3,)])],
                     passable, program)

    def test_four_hundred_values(self):
        program = read(rows("box a 0 19 0", "box b -10 9 0", "mark m", "ask a", "ask b", "mark n", "if a < b go m", "mark k"))
        told = every(program)
        self.answers([("m", [(0, 0)] + [values for values in told if values[0] < values[1]]), ("n", told),
                      ("k", [values for values in told if not values[0] < values[1]])],
                     passable, program)

    def test_sixty_rows(self):
        program = read(rows("box a 0 19 0", "box b 0 19 0", "mark m", *["ask a", "ask b"] * 28, "mark n"))
        self.answers([("m", [(0, 0)]), ("n", every(program))], passable, program)

    def test_the_told_lists_are_the_askers_own(self):
        self.own(passable, LOOP)
        self.own(passable, read("box a 0 9 4"))
        self.own(passable, read(rows("box a 0 9 4", "stop", "mark m", "mark n")))


class Shortest(Case):
    def by(self, program, mark, values, expected):
        with self.subTest(mark=mark, values=values):
            self.answers(expected, shortest, program, mark, values)

    def test_no_number_needed(self):
        program = read(rows("box a 0 9 4", "mark m", "put a a+1", "mark n", "ask a", "mark k"))
        self.by(program, "m", (4,), [])
        self.by(program, "n", (5,), [])
        self.by(program, "k", (5,), [5])
        self.by(LOOP, "top", (0,), [])

    def test_the_fewest_numbers(self):
        self.by(LOOP, "top", (-1,), [-1])
        self.by(LOOP, "top", (3,), [3])
        self.by(LOOP, "more", (2,), [2])
        self.by(LOOP, "less", (2,), [1])
        self.by(LOOP, "less", (3,), [2])
        program = read(rows("box a 0 5 0", "box b 0 5 0", "mark m", "ask b", "if b = 5 go far", "put a a+b", "go m",
                            "mark far", "put a a+4", "mark n"))
        self.by(program, "m", (4, 4), [4])
        self.by(program, "m", (4, 3), [1, 3])
        self.by(program, "m", (5, 4), [1, 4])
        self.by(program, "n", (5, 5), [1, 5])
        self.by(program, "n", (4, 5), [5])

    def test_the_first_by_its_numbers(self):
        program = read(rows("box a -9 10 0", "ask a", "if a*a = 9 go m", "if a*a = 16 go m", "stop", "mark m", "put a a*a",
                            "put a 1", "mark n"))
        self.by(program, "m", (3,), [3])
        self.by(program, "n", (1,), [-3])
        program = read(rows("box a -3 3 0", "box b -3 3 0", "ask a", "ask b", "if a+b = 1 go m", "stop", "mark m",
                            "put a 0", "put b 0", "mark n"))
        self.by(program, "n", (0, 0), [-2, 3])
        program = read(rows("box a 0 9 0", "ask a", "put a 5", "mark m"))
        self.by(program, "m", (5,), [0])
        program = read(rows("box a -9 0 0", "ask a", "put a 0", "ask a", "mark m"))
        self.by(program, "m", (-4,), [-9, -4])

    def test_fewer_numbers_come_ahead_of_lower_ones(self):
        program = read(rows("box a 0 9 0", "ask a", "if a = 9 go m", "ask a", "put a 9", "mark m"))
        self.by(program, "m", (9,), [9])
        program = read(rows("box a 0 9 0", "box b 0 9 0", "mark top", "ask a", "if a = 9 go m", "put b b+a", "go top",
                            "mark m"))
        self.by(program, "m", (9, 9), [1, 8, 9])
        self.by(program, "m", (9, 8), [8, 9])
        self.by(program, "m", (9, 0), [9])
        self.by(program, "top", (0, 8), [8, 0])

    def test_where_lower_numbers_come_to_the_standing_later(self):
        # By 0 the mark is come to with one number more, by 1 at once: the one number counts.
        program = read(rows("box a 0 1 0", "box b 0 1 0", "ask a", "if a = 1 go m", "ask a", "put a 1", "mark m", "ask b",
                            "mark n"))
        self.by(program, "m", (1, 0), [1])
        self.by(program, "n", (1, 1), [1, 1])
        self.by(program, "n", (1, 0), [1, 0])

    def test_none_does(self):
        self.by(LOOP, "less", (0,), None)
        self.by(LOOP, "less", (1,), None)
        self.by(LOOP, "more", (0,), None)
        self.by(LOOP, "top", (1,), None)
        self.by(read(rows("box a 0 9 4", "stop", "mark m")), "m", (4,), None)
        self.by(read(rows("box a 0 9 4", "mark m", "go m", "mark n")), "n", (4,), None)
        self.by(read(rows("box a 0 9 4", "mark m", "ask a")), "m", (5,), None)

    def test_programs_that_go_round_ahead_of_an_ask(self):
        program = read(rows("box a 0 3 0", "mark m", "ask a", "mark n", "if a < 2 go n", "ask a", "mark k", "go m"))
        self.by(program, "n", (1,), [1])
        self.by(program, "k", (0,), [2, 0])
        self.by(program, "m", (3,), [2, 3])
        program = read(rows("box a 0 3 1", "mark m", "put a 3-a", "go m", "ask a", "mark n"))
        self.by(program, "m", (1,), [])
        self.by(program, "m", (2,), [])
        self.by(program, "m", (0,), None)
        self.by(program, "n", (0,), None)

    def test_a_standing_that_comes_again_behind_a_number(self):
        program = read(rows("box a 0 1 0", "box b 0 3 0", "mark m", "ask a", "if a = 0 go m", "put b b+1", "put a 0", "go m"))
        for n in range(4):
            self.by(program, "m", (0, n), [1] * n)

    def test_inputs_of_many_numbers(self):
        program = read(rows("box a -1 0 0", "box b 0 19 0", "box c 0 9 0", "mark m", "ask a", "if a = 0 go end", "put a 0",
                            "if b = 19 go more", "put b b+1", "go m", "mark more", "put b 0", "put c c+1", "go m",
                            "mark end"))
        for c in range(10):
            for b in (0, 1, 18, 19):
                self.by(program, "m", (0, b, c), [-1] * (20 * c + b))
        self.by(program, "end", (0, 19, 9), [-1] * 199 + [0])
        self.by(program, "more", (0, 19, 9), [-1] * 200)

    def test_inputs_of_some_thousands(self):
        program = read(rows("box x 0 1 0", "box b 0 19 0", "box c 0 9 0", "mark m", *["ask x", "if x < 1 go end"] * 22,
                            "if b < 19 go more", "put b 0", "put c c+1", "go m", "mark more", "put b b+1", "go m",
                            "mark end"))
        self.by(program, "m", (1, 19, 9), [1] * (22 * 199))
        self.by(program, "end", (0, 19, 9), [1] * (22 * 199) + [0])

    def test_numbers_that_no_box_may_hold_are_of_no_use(self):
        program = read(rows("box a 3 5 4", "ask a", "mark m"))
        for n in (3, 4, 5):
            self.by(program, "m", (n,), [n])

    def test_the_input_passes_the_mark(self):
        for program in PROGRAMS:
            for mark, some in passable(program):
                for values in some:
                    self.assertIn((mark, values), run(program, shortest(program, mark, values))[0])

    def test_the_told_list_is_the_askers_own(self):
        self.own(shortest, LOOP, "top", (0,))
        self.own(shortest, LOOP, "less", (3,))
        told = shortest(LOOP, "less", (3,))
        told.append(GREAT)
        self.by(LOOP, "less", (3,), [2])


class ByAllInputs(Case):
    # What passable and shortest tell, against all inputs up to a length that is enough for these programs.
    def check(self, program, longest):
        told = first_inputs(program, longest)
        passed = passable(program)
        expected = [(mark, sorted([values for name, values in told if name == mark])) for mark in marks_of(program)]
        self.just(passed, expected)
        for mark in marks_of(program):
            for values in every(program):
                self.just(shortest(program, mark, values), told.get((mark, values)))

    def test_some_programs(self):
        for program in PROGRAMS:
            with self.subTest(program=program):
                self.check(program, 4)

    def test_made_programs(self):
        chance = random.Random(17)
        for _ in range(60):
            program = made(chance)
            with self.subTest(program=program):
                self.check(program, 5)

    def test_what_comes_next_leads_to_what_can_be_passed(self):
        chance = random.Random(18)
        for program in PROGRAMS + tuple([made(chance) for _ in range(60)]):
            met = {}
            waiting = first_of(program)
            while waiting:
                passed = waiting.pop()
                if passed not in met:
                    met[passed] = True
                    waiting += next_of(program, *passed)
            expected = [(mark, sorted([values for name, values in met if name == mark])) for mark in marks_of(program)]
            with self.subTest(program=program):
                self.just(passable(program), expected)


if __name__ == "__main__":
    unittest.main()
