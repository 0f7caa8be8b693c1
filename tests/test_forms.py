import itertools
import unittest

from support import Case, rows
from sayswho.errors import NoSaying
from sayswho.forms import is_so, read_saying, sayings, shown_saying
from sayswho.reader import read

FORMS = ("is", "from", "to", "rest", "either", "never", "same", "below", "most", "gap", "sum", "adds", "times")
THOUSANDS = 5000
GREAT = 10 ** 30 - 1

ONE = read("box a -2 3 0")
ONE_NUMBER = read("box a 5 5 5")
TWO = read(rows("box a -1 1 0", "box b 0 4 0"))
THREE = read(rows("box a -99 -97 -98", "box b 7 7 7", "box c 80 99 90"))
FOUR = read(rows("box d 0 1 0", "box c -1 2 0", "box b 0 0 0", "box a 0 4 0"))
WIDE = read(rows("box a 0 19 0", "box b -10 9 0"))
ALL = (ONE, ONE_NUMBER, TWO, THREE, FOUR, WIDE)

RESTS = ((2, 0), (2, 1), (3, 0), (3, 1), (3, 2), (4, 0), (4, 1), (4, 2), (4, 3), (5, 0), (5, 1), (5, 2), (5, 3), (5, 4),
         (6, 0), (6, 1), (6, 2), (6, 3), (6, 4), (6, 5))


def rests(a):
    return [("rest", a, m, r) for m, r in RESTS]


def gaps(a, b):
    return [("gap", a, b, n) for n in range(-20, 0)] + [("gap", a, b, n) for n in range(1, 21)]


def sums(a, b):
    return [("sum", a, b, n) for n in range(-40, 41)]


def of_form(form, program):
    return [saying for saying in sayings(program) if saying[0] == form]


class Sayings(Case):
    def test_one_box(self):
        self.answers(
            [("is", 0, n) for n in (-2, -1, 0, 1, 2, 3)]
            + [("from", 0, n) for n in (-1, 0, 1, 2, 3)]
            + [("to", 0, n) for n in (-2, -1, 0, 1, 2)]
            + rests(0)
            + [("either", 0, n, k) for n, k in ((-2, -1), (-2, 0), (-2, 1), (-2, 2), (-2, 3), (-1, 0), (-1, 1), (-1, 2),
                                               (-1, 3), (0, 1), (0, 2), (0, 3), (1, 2), (1, 3), (2, 3))]
            + [("never", 0, n) for n in (-2, -1, 0, 1, 2, 3)],
            sayings, ONE)

    def test_a_box_of_one_number(self):
        self.answers([("is", 0, 5)] + rests(0) + [("never", 0, 5)], sayings, ONE_NUMBER)

    def test_a_box_of_two_numbers(self):
        self.answers([("is", 0, -1), ("is", 0, 0), ("from", 0, 0), ("to", 0, -1)] + rests(0)
                     + [("either", 0, -1, 0), ("never", 0, -1), ("never", 0, 0)],
                     sayings, read("box a -1 0 0"))

    def test_two_boxes(self):
        self.answers(
            [("is", 0, -3), ("is", 1, 7), ("is", 1, 8), ("from", 1, 8), ("to", 1, 7)] + rests(0) + rests(1)
            + [("either", 1, 7, 8), ("never", 0, -3), ("never", 1, 7), ("never", 1, 8)]
            + [("same", 0, 1), ("below", 0, 1), ("below", 1, 0), ("most", 0, 1), ("most", 1, 0)]
            + gaps(0, 1) + sums(0, 1),
            sayings, read(rows("box a -3 -3 -3", "box b 7 8 8")))

    def test_three_boxes(self):
        pairs = ((0, 1), (0, 2), (1, 2))
        unlike = ((0, 1), (0, 2), (1, 0), (1, 2), (2, 0), (2, 1))
        self.answers(
            [("is", 0, 0), ("is", 1, -9), ("is", 2, 4), ("is", 2, 5), ("from", 2, 5), ("to", 2, 4)]
            + rests(0) + rests(1) + rests(2) + [("either", 2, 4, 5)]
            + [("never", 0, 0), ("never", 1, -9), ("never", 2, 4), ("never", 2, 5)]
            + [("same", a, b) for a, b in pairs]
            + [("below", a, b) for a, b in unlike]
            + [("most", a, b) for a, b in unlike]
            + gaps(0, 1) + gaps(0, 2) + gaps(1, 2) + sums(0, 1) + sums(0, 2) + sums(1, 2)
            + [("adds", 0, 1, 2), ("adds", 0, 2, 1), ("adds", 1, 2, 0)]
            + [("times", 0, 1, 2), ("times", 0, 2, 1), ("times", 1, 2, 0)],
            sayings, read(rows("box a 0 0 0", "box b -9 -9 -9", "box c 4 5 4")))

    def test_four_boxes(self):
        threes = ((0, 1, 2), (0, 1, 3), (0, 2, 1), (0, 2, 3), (0, 3, 1), (0, 3, 2), (1, 2, 0), (1, 2, 3), (1, 3, 0),
                  (1, 3, 2), (2, 3, 0), (2, 3, 1))
        pairs = ((0, 1), (0, 2), (0, 3), (1, 2), (1, 3), (2, 3))
        unlike = ((0, 1), (0, 2), (0, 3), (1, 0), (1, 2), (1, 3), (2, 0), (2, 1), (2, 3), (3, 0), (3, 1), (3, 2))
        self.just(of_form("is", FOUR), [("is", 0, 0), ("is", 0, 1), ("is", 1, -1), ("is", 1, 0), ("is", 1, 1),
                                        ("is", 1, 2), ("is", 2, 0), ("is", 3, 0), ("is", 3, 1), ("is", 3, 2),
                                        ("is", 3, 3), ("is", 3, 4)])
        self.just(of_form("same", FOUR), [("same", a, b) for a, b in pairs])
        self.just(of_form("below", FOUR), [("below", a, b) for a, b in unlike])
        self.just(of_form("most", FOUR), [("most", a, b) for a, b in unlike])
        self.just(of_form("gap", FOUR), [saying for a, b in pairs for saying in gaps(a, b)])
        self.just(of_form("sum", FOUR), [saying for a, b in pairs for saying in sums(a, b)])
        self.just(of_form("adds", FOUR), [("adds", a, b, c) for a, b, c in threes])
        self.just(of_form("times", FOUR), [("times", a, b, c) for a, b, c in threes])

    def test_the_bounds_of_each_number(self):
        for program in ALL:
            for place, (_, low, high, _) in enumerate(program[0]):
                with self.subTest(program=program, place=place):
                    numbers = list(range(low, high + 1))
                    for form, expected in (("is", numbers), ("from", numbers[1:]), ("to", numbers[:-1]),
                                           ("never", numbers)):
                        self.just([s[2] for s in of_form(form, program) if s[1] == place], expected)
                    self.just([s[2:] for s in of_form("either", program) if s[1] == place],
                              list(itertools.combinations(numbers, 2)))
                    self.just([s[2:] for s in of_form("rest", program) if s[1] == place], list(RESTS))

    def test_the_places_of_each_form(self):
        for program in ALL:
            places = range(len(program[0]))
            rising = list(itertools.combinations(places, 2))
            threes = [(a, b, c) for a, b in rising for c in places if c not in (a, b)]
            with self.subTest(program=program):
                self.just([s[1:] for s in of_form("same", program)], rising)
                for form in ("below", "most"):
                    self.just([s[1:] for s in of_form(form, program)], list(itertools.permutations(places, 2)))
                for form in ("adds", "times"):
                    self.just([s[1:] for s in of_form(form, program)], threes)
                self.just(of_form("gap", program), [saying for a, b in rising for saying in gaps(a, b)])
                self.just(of_form("sum", program), [saying for a, b in rising for saying in sums(a, b)])

    def test_the_order(self):
        for program in ALL:
            told = sayings(program)
            self.just(told, sorted(told, key=lambda saying: (FORMS.index(saying[0]), saying[1:])))
            self.assertEqual(len(set(told)), len(told))

    def test_how_many(self):
        self.assertEqual([len(sayings(program)) for program in ALL], [57, 22, 207, 727, 917, 702])

    def test_statements_and_firsts_count_for_nothing(self):
        program = read(rows("box a -2 3 3", "mark m", "ask a", "put a a+1", "go m"))
        self.answers(sayings(ONE), sayings, program)

    def test_programs_somewhat_beyond_their_bounds(self):
        program = ([("a", -120, -96, -100), ("b", 0, 0, 0), ("c", 0, 0, 0), ("d", 0, 0, 0), ("e", 0, 0, 0)], [])
        self.just([s[2] for s in of_form("is", program) if s[1] == 0], list(range(-120, -95)))
        self.just([s[1:] for s in of_form("same", program)], list(itertools.combinations(range(5), 2)))
        self.assertEqual(len(of_form("adds", program)), 30)
        self.answers("a in -120 -96", shown_saying, program, ("either", 0, -120, -96))
        self.answers(("adds", 3, 4, 0), read_saying, program, "d + e = a")

    def test_the_told_list_is_the_askers_own(self):
        for program in ALL:
            self.own(sayings, program)

    def test_a_program_changed_behind(self):
        program = read("box a 0 1 0")
        told = sayings(program)
        program[0].append(("b", 5, 5, 5))
        self.just(told, sayings(read("box a 0 1 0")))
        self.just(sayings(program), sayings(read(rows("box a 0 1 0", "box b 5 5 5"))))


class AreSo(Case):
    def so(self, saying, *some):
        for values in some:
            with self.subTest(saying=saying, values=values):
                self.answers(True, is_so, saying, values)

    def not_so(self, saying, *some):
        for values in some:
            with self.subTest(saying=saying, values=values):
                self.answers(False, is_so, saying, values)

    def test_is(self):
        self.so(("is", 0, 3), (3,), (3, 0), (3, 3))
        self.not_so(("is", 0, 3), (2,), (4,), (-3,), (0, 3))
        self.so(("is", 1, -3), (0, -3))
        self.not_so(("is", 1, -3), (-3, 3), (-3, -2), (-3, -4))
        self.so(("is", 0, 0), (0,))

    def test_from(self):
        self.so(("from", 0, 3), (3,), (4,), (99,))
        self.not_so(("from", 0, 3), (2,), (-3,), (0, 3))
        self.so(("from", 1, -3), (-9, -3), (-9, -2), (-9, 0), (-9, 5))
        self.not_so(("from", 1, -3), (0, -4), (0, -99))

    def test_to(self):
        self.so(("to", 0, 3), (3,), (2,), (-99,))
        self.not_so(("to", 0, 3), (4,), (99,), (4, 3))
        self.so(("to", 1, -3), (9, -3), (9, -4))
        self.not_so(("to", 1, -3), (-9, -2), (-9, 0), (-9, 3))

    def test_rest(self):
        self.so(("rest", 0, 2, 1), (1,), (3,), (-1,), (-3,), (99,), (-99,))
        self.not_so(("rest", 0, 2, 1), (0,), (2,), (-2,), (1 - 1, 1))
        self.so(("rest", 0, 4, 1), (1,), (5,), (-3,), (-7,))
        self.not_so(("rest", 0, 4, 1), (-1,), (-5,), (3,), (0,), (2,), (4,))
        self.so(("rest", 1, 6, 5), (0, 5), (0, 11), (0, -1), (0, -7))
        self.not_so(("rest", 1, 6, 5), (5, 6), (5, -5), (5, 1), (5, 0))
        self.so(("rest", 0, 3, 0), (0,), (3,), (-3,), (-6,))
        self.not_so(("rest", 0, 3, 0), (1,), (2,), (-1,), (-2,))

    def test_rest_of_each_number(self):
        for m, r in RESTS:
            multiples = [m * k for k in range(-60, 61)]
            for n in range(-99, 100):
                self.assertIs(is_so(("rest", 0, m, r), (n,)), n - r in multiples, (m, r, n))

    def test_either(self):
        self.so(("either", 0, 3, 5), (3,), (5,))
        self.not_so(("either", 0, 3, 5), (4,), (2,), (6,), (0, 3), (-3,), (-5,))
        self.so(("either", 1, -2, 0), (9, -2), (9, 0))
        self.not_so(("either", 1, -2, 0), (0, -1), (0, -3), (0, 1), (-2, 2))

    def test_never(self):
        self.so(("never", 0, 3), (2,), (4,), (-3,), (0, 3))
        self.not_so(("never", 0, 3), (3,), (3, 0))
        self.so(("never", 1, -3), (-3, -2), (-3, 3))
        self.not_so(("never", 1, -3), (0, -3))

    def test_same(self):
        self.so(("same", 0, 1), (4, 4), (-4, -4), (0, 0))
        self.not_so(("same", 0, 1), (4, 5), (5, 4), (-4, 4))
        self.so(("same", 1, 3), (0, 7, 1, 7))
        self.not_so(("same", 1, 3), (7, 6, 7, 7), (7, 7, 7, 6))

    def test_below(self):
        self.so(("below", 0, 1), (3, 4), (-4, -3), (-4, 4))
        self.not_so(("below", 0, 1), (4, 4), (5, 4), (-3, -4), (-4, -4))
        self.so(("below", 2, 0), (1, 9, 0))
        self.not_so(("below", 2, 0), (1, 2, 1), (0, 2, 1))

    def test_most(self):
        self.so(("most", 0, 1), (3, 4), (4, 4), (-4, -3), (-4, -4))
        self.not_so(("most", 0, 1), (5, 4), (-3, -4))
        self.so(("most", 2, 0), (1, 9, 0), (1, 0, 1))
        self.not_so(("most", 2, 0), (0, 2, 1))

    def test_gap(self):
        self.so(("gap", 0, 1, 3), (5, 2), (1, -2), (-1, -4))
        self.not_so(("gap", 0, 1, 3), (2, 5), (5, 3), (5, 1), (1, 2))
        self.so(("gap", 1, 2, -20), (0, 0, 20), (0, -10, 10))
        self.not_so(("gap", 1, 2, -20), (0, 20, 0), (0, 0, 19), (0, 1, 20), (0, 0, 21))
        self.so(("gap", 0, 1, 20), (10, -10))

    def test_sum(self):
        self.so(("sum", 0, 1, 3), (1, 2), (3, 0), (-4, 7))
        self.not_so(("sum", 0, 1, 3), (1, 1), (2, 2), (3, 3), (5, 2))
        self.so(("sum", 0, 2, -40), (-20, 0, -20), (-39, 5, -1))
        self.not_so(("sum", 0, 2, -40), (-20, -20, 0), (20, 0, 20), (-20, 0, -19))
        self.so(("sum", 0, 1, 0), (0, 0), (4, -4))
        self.so(("sum", 0, 1, 40), (20, 20))

    def test_adds(self):
        self.so(("adds", 0, 1, 2), (1, 2, 3), (0, 0, 0), (-1, -2, -3), (5, -2, 3))
        self.not_so(("adds", 0, 1, 2), (1, 2, 2), (1, 2, 4), (3, 2, 1), (1, 3, 2))
        self.so(("adds", 1, 3, 0), (9, 4, 0, 5))
        self.not_so(("adds", 1, 3, 0), (4, 9, 0, 5), (9, 4, 5, 0))

    def test_times(self):
        self.so(("times", 0, 1, 2), (2, 3, 6), (0, 5, 0), (-2, 3, -6), (-2, -3, 6), (1, 1, 1))
        self.not_so(("times", 0, 1, 2), (2, 3, 5), (2, 3, 7), (6, 3, 2), (2, 6, 3), (-2, 3, 6))
        self.so(("times", 1, 3, 0), (8, 4, 0, 2))
        self.not_so(("times", 1, 3, 0), (4, 8, 0, 2), (8, 4, 2, 0))

    def test_great_numbers(self):
        self.so(("adds", 0, 1, 2), (GREAT, -GREAT, 0), (GREAT - 1, 1, GREAT))
        self.not_so(("adds", 0, 1, 2), (GREAT, 1, GREAT), (GREAT, -GREAT, 1))
        self.so(("times", 0, 1, 2), (GREAT, -1, -GREAT))
        self.not_so(("times", 0, 1, 2), (GREAT, -1, GREAT))
        self.so(("rest", 0, 3, 0), (GREAT,), (-GREAT,))
        self.not_so(("rest", 0, 3, 0), (GREAT - 1,), (1 - GREAT,))
        self.so(("below", 0, 1), (GREAT - 1, GREAT))
        self.not_so(("same", 0, 1), (GREAT - 1, GREAT))
        self.so(("is", 0, GREAT), (GREAT,))
        self.not_so(("is", 0, GREAT), (GREAT - 1,))

    def test_how_many_are_so_of_each_number(self):
        for n in range(-2, 4):
            so = [saying for saying in sayings(ONE) if is_so(saying, (n,))]
            self.assertEqual([saying for saying in so if saying[0] == "is"], [("is", 0, n)])
            self.assertEqual(len([saying for saying in so if saying[0] == "never"]), 5)
            self.assertEqual(len([saying for saying in so if saying[0] == "either"]), 5)
            self.assertEqual(len([saying for saying in so if saying[0] == "rest"]), 5)
            self.assertEqual(len([saying for saying in so if saying[0] in ("from", "to")]), 5)


class Written(Case):
    def written(self, program, saying, text):
        with self.subTest(text=text):
            self.answers(text, shown_saying, program, saying)
            self.answers(saying, read_saying, program, text)

    def test_each_form(self):
        program = read(rows("box a 0 6 0", "box b 0 5 0", "box c 0 4 0"))
        for saying, text in (
                (("is", 0, 3), "a = 3"), (("from", 0, 3), "a >= 3"), (("to", 0, 3), "a <= 3"),
                (("rest", 0, 2, 1), "a rest 2 = 1"), (("either", 0, 3, 5), "a in 3 5"), (("never", 0, 3), "a not 3"),
                (("same", 0, 1), "a = b"), (("below", 0, 1), "a < b"), (("most", 0, 1), "a <= b"),
                (("gap", 0, 1, 3), "a - b = 3"), (("sum", 0, 1, 3), "a + b = 3"), (("adds", 0, 1, 2), "a + b = c"),
                (("times", 0, 1, 2), "a * b = c")):
            self.written(program, saying, text)

    def test_each_box_by_its_name(self):
        program = read(rows("box z 0 6 0", "box abcdefgh 0 2 0", "box m 0 1 0", "box a 0 4 0"))
        for saying, text in (
                (("is", 3, 3), "a = 3"), (("from", 2, 1), "m >= 1"), (("to", 1, 0), "abcdefgh <= 0"),
                (("rest", 3, 6, 5), "a rest 6 = 5"), (("either", 0, 0, 6), "z in 0 6"), (("never", 1, 2), "abcdefgh not 2"),
                (("same", 0, 3), "z = a"), (("same", 1, 2), "abcdefgh = m"), (("below", 3, 0), "a < z"),
                (("below", 0, 3), "z < a"), (("most", 3, 1), "a <= abcdefgh"), (("gap", 2, 3, 1), "m - a = 1"),
                (("sum", 1, 3, 0), "abcdefgh + a = 0"), (("adds", 1, 3, 0), "abcdefgh + a = z"),
                (("adds", 0, 3, 2), "z + a = m"), (("times", 2, 3, 1), "m * a = abcdefgh")):
            self.written(program, saying, text)

    def test_numbers_below_nought(self):
        program = read(rows("box a -99 -90 -95", "box b -10 9 0"))
        for saying, text in (
                (("is", 0, -99), "a = -99"), (("from", 0, -98), "a >= -98"), (("to", 0, -99), "a <= -99"),
                (("either", 0, -99, -90), "a in -99 -90"), (("either", 1, -1, 0), "b in -1 0"),
                (("never", 1, -10), "b not -10"), (("gap", 0, 1, -20), "a - b = -20"), (("gap", 0, 1, -1), "a - b = -1"),
                (("sum", 0, 1, -40), "a + b = -40"), (("sum", 0, 1, 0), "a + b = 0")):
            self.written(program, saying, text)

    def test_names_that_are_the_beginning_of_another(self):
        program = read(rows("box a 0 3 0", "box aa 0 3 0", "box aaa 0 3 0"))
        for saying, text in (
                (("is", 0, 2), "a = 2"), (("is", 1, 2), "aa = 2"), (("is", 2, 2), "aaa = 2"), (("same", 0, 1), "a = aa"),
                (("same", 0, 2), "a = aaa"), (("same", 1, 2), "aa = aaa"), (("adds", 0, 1, 2), "a + aa = aaa"),
                (("adds", 1, 2, 0), "aa + aaa = a"), (("times", 0, 2, 1), "a * aaa = aa"),
                (("rest", 1, 3, 0), "aa rest 3 = 0"), (("below", 2, 1), "aaa < aa")):
            self.written(program, saying, text)
        self.refused(NoSaying, read_saying, program, "aaaa = 2")

    def test_names_that_are_words_of_sayings(self):
        program = read(rows("box rest 0 3 0", "box is 0 3 0", "box number 0 3 0"))
        for saying, text in (
                (("rest", 0, 2, 1), "rest rest 2 = 1"), (("rest", 1, 2, 1), "is rest 2 = 1"), (("is", 0, 3), "rest = 3"),
                (("same", 0, 1), "rest = is"), (("adds", 0, 1, 2), "rest + is = number"), (("is", 2, 0), "number = 0"),
                (("gap", 0, 2, 2), "rest - number = 2"), (("either", 0, 0, 1), "rest in 0 1")):
            self.written(program, saying, text)

    def test_each_saying_is_read_again(self):
        for program in ALL:
            told = sayings(program)
            texts = [shown_saying(program, saying) for saying in told]
            self.assertEqual(len(set(texts)), len(texts))
            for saying, text in zip(told, texts):
                self.assertIsInstance(text, str)
                self.just(read_saying(program, text), saying)

    def test_what_is_read_is_of_plain_kinds(self):
        for text in ("a = 3", "a in 3 4", "b rest 2 = 1", "a + b = 0", "a = b"):
            told = self.asked(read_saying, WIDE, text)
            self.assertIs(type(told), tuple)
            self.assertEqual([type(part) for part in told], [str] + [int] * (len(told) - 1))


class Refused(Case):
    PROGRAM = read(rows("box a -2 6 0", "box b 0 5 0", "box c 3 3 3"))

    def refuses(self, *texts):
        for text in texts:
            with self.subTest(text=text[:80]):
                self.refused(NoSaying, read_saying, self.PROGRAM, text)

    def reads(self, *texts):
        for text in texts:
            with self.subTest(text=text):
                self.answers(text, shown_saying, self.PROGRAM, read_saying(self.PROGRAM, text))

    TEXTS = ("a = 3", "a >= 3", "a <= 3", "a rest 2 = 1", "a in 3 5", "a not 3", "a = b", "a < b", "a <= b", "a - b = 3",
             "a + b = 3", "a + b = c", "a * b = c", "a = -2", "a in -2 -1", "a - b = -3", "a + b = -3", "b + c = a")

    def test_these_are_sayings(self):
        self.reads(*self.TEXTS)

    def test_words_lacking(self):
        for text in self.TEXTS:
            words = text.split(" ")
            for place in range(len(words)):
                left = words[:place] + words[place + 1:]
                self.refuses(" ".join(left))
        self.refuses("a", "3", "a rest 2", "a in 3", "a + b", "a - b =", "a =", "= 3")

    def test_too_many_words(self):
        for text in self.TEXTS:
            self.refuses(text + " 3", text + " a", text + " =", "a " + text, "3 " + text, text + " " + text,
                         text + " = 3")
        self.refuses("a in 3 4 5", "a not 3 4", "a not in 3 5", "a + b + c = 3", "a + b = c + a", "a rest 2 = 1 = 1")

    def test_words_twice(self):
        for text in self.TEXTS:
            words = text.split(" ")
            for place in range(len(words)):
                self.refuses(" ".join(words[:place + 1] + words[place:]))

    def test_otherwise_written(self):
        self.refuses("a == 3", "a => 3", "a =< 3", "a > 3", "a < 3", "a != 3", "a is 3", "a Rest 2 = 1", "a REST 2 = 1",
                     "a % 2 = 1", "a mod 2 = 1", "a rest 2 == 1", "a rest 2 1", "a In 3 5", "a in 3, 5", "a in 3,5",
                     "a in 3 or 5", "a Not 3", "a no 3", "a <> 3", "a == b", "a > b", "a >= b", "a =< b", "a != b",
                     "a - b == 3", "a - b < 3", "a + b < c", "a * b < c", "a x b = c", "a * b = 3", "a - b = c", "3 = a",
                     "3 >= a", "2 rest a = 1", "3 < b", "a < 5", "c = a + b", "3 = a + b", "a not b", "a in b c",
                     "a in 3 b", "a rest b = 1", "a rest 2 = b", "a / b = c", "a = 3.", "a = 3;", "A = 3", "a = B",
                     "is a 3", "is 0 3", "3 = 3", "a = (3)", "a = 1+2", "a + 3 = b", "a - 3 = b")

    def test_blanks(self):
        for text in self.TEXTS:
            self.refuses(" " + text, text + " ", "  " + text, text + "  ", text.replace(" ", ""))
            for place, sign in enumerate(text):
                if sign == " ":
                    self.refuses(text[:place] + " " + text[place:], text[:place] + text[place + 1:])
        self.refuses(" ", "  ", "- 3", "a = - 3", "a = -  2")

    def test_the_text_without_signs(self):
        self.refuses("")

    def test_line_feeds(self):
        for text in self.TEXTS:
            self.refuses("\n" + text, text + "\n", text.replace(" ", "\n"), text.replace(" ", "\n", 1), text + "\n" + text,
                         text.replace(" ", " \n", 1))
        self.refuses("\n", "\n\n")

    def test_numbers_that_are_none(self):
        self.refuses("a = 03", "a = 003", "a = 00", "a = -0", "a = +3", "a = +0", "a = -02", "a = --2", "a = 3-", "a = -",
                     "a >= 03", "a >= +3", "a >= -0", "a <= 03", "a <= +3", "a <= -0", "a rest 02 = 1", "a rest 2 = 01",
                     "a rest 2 = -0", "a rest 2 = +1", "a rest +2 = 1", "a in 03 5", "a in 3 05", "a in -0 5", "a in +3 5",
                     "a in 3 +5", "a in -2 -0", "a not 03", "a not -0", "a not +3", "a - b = 03", "a - b = +3",
                     "a - b = -0", "a - b = -03", "a + b = 03", "a + b = +3", "a + b = -0", "a + b = -03", "a = 3.0",
                     "a = 3_0", "a = three", "a = 0x3", "a = 1e0")

    def test_numbers_of_many_figures(self):
        self.refuses("a = 1000", "a = 0003", "a = -1000", "a >= 1000", "a <= 0000", "a rest 1000 = 1", "a rest 2 = 1000",
                     "a rest 2 = 0001", "a in 0003 5", "a in 3 1000", "a not 1000", "a - b = 1000", "a - b = 0003",
                     "a + b = 1000", "a + b = -1000", "a + b = 0003", "a = 999", "a + b = 100", "a = " + "3" * THOUSANDS,
                     "a = " + "0" * THOUSANDS, "a + b = -" + "1" * THOUSANDS)

    def test_long_texts(self):
        self.refuses("a" * THOUSANDS, "a = " + "b" * THOUSANDS, " " * THOUSANDS, "a = 3 " * THOUSANDS,
                     "a " * THOUSANDS, "\n" * THOUSANDS)

    def test_names_that_are_no_boxs(self):
        self.refuses("d = 3", "aa = 3", "d >= 3", "d <= 3", "d rest 2 = 1", "d in 3 5", "d not 3", "d = b", "a = d",
                     "d < b", "a < d", "d <= b", "a <= d", "d - b = 3", "a - d = 3", "d + b = 3", "a + d = 3",
                     "d + b = c", "a + d = c", "a + b = d", "d * b = c", "a * d = c", "a * b = d", "box = 3", "not not 3",
                     "in in 3 5", "rest rest 2 = 1", "0 = 3", "A = b", "a = BOX", "BOX = 3", "a = NUMBER")

    def test_a_name_of_a_mark_is_no_boxs(self):
        program = read(rows("box a 0 9 0", "mark b"))
        self.refused(NoSaying, read_saying, program, "b = 3")
        self.refused(NoSaying, read_saying, program, "a = b")

    def test_numbers_beyond_their_bounds(self):
        self.reads("a = -2", "a = 6", "a >= -1", "a >= 6", "a <= -2", "a <= 5", "a not -2", "a not 6", "a in -2 6",
                   "a in -2 -1", "a in 5 6", "c = 3", "c not 3", "b = 0", "b >= 1", "b <= 4")
        self.refuses("a = -3", "a = 7", "a >= -2", "a >= 7", "a >= -3", "a <= -3", "a <= 6", "a <= 7", "a not -3",
                     "a not 7", "a in -3 6", "a in -2 7", "a in -3 -2", "a in 6 7", "c = 2", "c = 4", "c >= 3", "c >= 4",
                     "c <= 3", "c <= 2", "c not 2", "c not 4", "c in 3 4", "c in 3 3", "b = -1", "b = 6", "b >= 0",
                     "b <= 5")

    def test_either_with_n_not_below_k(self):
        self.refuses("a in 5 3", "a in 3 3", "a in -1 -2", "a in 0 -2", "a in 6 6", "a in 6 -2")

    def test_rests_beyond_their_bounds(self):
        for m in range(2, 7):
            self.reads(f"a rest {m} = 0", f"c rest {m} = {m - 1}")
            self.refuses(f"a rest {m} = {m}", f"a rest {m} = -1", f"a rest {m} = {m + 1}", f"a rest -{m} = 0")
        self.refuses("a rest 1 = 0", "a rest 7 = 0", "a rest 7 = 6", "a rest 0 = 0", "a rest 1 = 1", "a rest 1 = -1")

    def test_gaps_beyond_their_bounds(self):
        self.reads("a - b = 20", "a - b = -20", "a - b = 1", "a - b = -1", "b - c = 20")
        self.refuses("a - b = 0", "a - b = 21", "a - b = -21", "b - c = 21", "b - c = 0")

    def test_sums_beyond_their_bounds(self):
        self.reads("a + b = 40", "a + b = -40", "a + b = 0", "a + c = 40")
        self.refuses("a + b = 41", "a + b = -41", "a + c = 41")

    def test_one_box_twice(self):
        self.refuses("a = a", "a < a", "a <= a", "a - a = 1", "a - a = 0", "a + a = 2", "a + a = b", "a + b = a",
                     "a + b = b", "b + b = c", "a * a = b", "a * b = a", "a * b = b", "a + a = a", "a * a = a")

    def test_places_the_wrong_way_about(self):
        self.reads("b < a", "b <= a", "c < a", "a + c = b", "b + c = a", "a * c = b", "b * c = a")
        self.refuses("b = a", "c = a", "c = b", "b - a = 3", "c - a = 1", "b + a = 3", "c + b = 3", "b + a = c", "c + a = b",
                     "c + b = a", "b * a = c", "c * a = b", "c * b = a")

    def test_what_needs_more_boxes_than_there_are(self):
        for text in ("a = b", "a < b", "a - b = 1", "a + b = 1", "a + b = c"):
            self.refused(NoSaying, read_saying, ONE, text)
        self.refused(NoSaying, read_saying, TWO, "a + b = c")

    def test_the_program_stays(self):
        kept = repr(self.PROGRAM)
        self.refuses("d = 3", "")
        self.assertEqual(repr(self.PROGRAM), kept)


if __name__ == "__main__":
    unittest.main()
