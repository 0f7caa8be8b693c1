import copy
import itertools
import unittest

from support import Case, rows
from sayswho.errors import Full, NoBox, NoMark, NoMeasure, NoPlace, NoRow, TooLong, Twice
from sayswho.reader import marks_of, read

A = ("box", "a")
B = ("box", "b")
ONE_BOX = "box a 0 9 0"
TWO_BOXES = rows("box a 0 9 0", "box b 0 9 0")
FOUR_BOXES = rows("box a 0 1 0", "box b 0 1 0", "box c 0 1 0", "box d 0 1 0")
EIGHT_MARKS = rows(*["mark m" + letter for letter in "abcdefgh"])


def number(n):
    return ("number", n)


class Programs(Case):
    def tells(self, text, boxes, statements):
        with self.subTest(text=text):
            self.just(read(text), (boxes, statements))

    def behind_one_box(self, text, *statements):
        self.tells(rows(ONE_BOX, text), [("a", 0, 9, 0)], list(statements))

    def test_boxes_alone(self):
        self.tells("box a 0 9 0", [("a", 0, 9, 0)], [])
        self.tells("box longname -3 -1 -2", [("longname", -3, -1, -2)], [])
        self.tells(rows("box b 5 5 5", "box a 0 3 1"), [("b", 5, 5, 5), ("a", 0, 3, 1)], [])
        self.tells(FOUR_BOXES, [("a", 0, 1, 0), ("b", 0, 1, 0), ("c", 0, 1, 0), ("d", 0, 1, 0)], [])

    def test_mark(self):
        self.behind_one_box("mark m", ("mark", "m"))
        self.behind_one_box("mark abcdefgh", ("mark", "abcdefgh"))

    def test_ask(self):
        self.behind_one_box("ask a", ("ask", 0))

    def test_put(self):
        self.behind_one_box("put a 7", ("put", 0, number(7)))
        self.behind_one_box("put a 999", ("put", 0, number(999)))
        self.behind_one_box("put a a", ("put", 0, A))
        self.behind_one_box("put a (a-1)*2", ("put", 0, ("*", ("-", A, number(1)), number(2))))

    def test_go(self):
        self.behind_one_box(rows("mark m", "go m"), ("mark", "m"), ("go", 0))

    def test_if(self):
        self.behind_one_box(rows("mark m", "if a < 3 go m"), ("mark", "m"), ("if", "<", A, number(3), 0))
        self.behind_one_box(rows("mark m", "if 3 = a go m"), ("mark", "m"), ("if", "=", number(3), A, 0))
        self.behind_one_box(rows("mark m", "if a-1 < a*(a+2) go m"), ("mark", "m"),
                            ("if", "<", ("-", A, number(1)), ("*", A, ("+", A, number(2))), 0))

    def test_stop(self):
        self.behind_one_box("stop", ("stop",))
        self.behind_one_box(rows("stop", "stop"), ("stop",), ("stop",))

    def test_boxes_by_their_places(self):
        boxes = [("a", 0, 1, 0), ("b", 0, 1, 0), ("c", 0, 1, 0), ("d", 0, 1, 0)]
        for place, name in enumerate("abcd"):
            self.tells(rows(FOUR_BOXES, "ask " + name, "put " + name + " b-d"), boxes,
                       [("ask", place), ("put", place, ("-", B, ("box", "d")))])
        self.tells(rows("box z 0 1 0", "box a 0 1 0", "ask a", "ask z", "put a z"),
                   [("z", 0, 1, 0), ("a", 0, 1, 0)], [("ask", 1), ("ask", 0), ("put", 1, ("box", "z"))])

    def test_jumps_ahead_and_back(self):
        self.tells(rows(TWO_BOXES, "go n", "mark m", "stop", "mark n", "if a < b go m", "go k", "if a = b go n",
                        "mark k", "if b = a go k"),
                   [("a", 0, 9, 0), ("b", 0, 9, 0)],
                   [("go", 3), ("mark", "m"), ("stop",), ("mark", "n"), ("if", "<", A, B, 1), ("go", 7),
                    ("if", "=", A, B, 3), ("mark", "k"), ("if", "=", B, A, 7)])

    def test_a_jump_to_the_last_row(self):
        self.behind_one_box(rows("go m", "stop", "mark m"), ("go", 2), ("stop",), ("mark", "m"))

    def test_boxes_and_marks_that_share_names(self):
        self.tells(rows(TWO_BOXES, "ask b", "mark b", "put a b", "mark a", "if b < a go a", "go b"),
                   [("a", 0, 9, 0), ("b", 0, 9, 0)],
                   [("ask", 1), ("mark", "b"), ("put", 0, B), ("mark", "a"), ("if", "<", B, A, 3), ("go", 1)])

    def test_numbers_within_their_bounds(self):
        for low, high, first in ((-99, -80, -99), (-99, -80, -80), (80, 99, 80), (80, 99, 99), (-99, -99, -99),
                                 (99, 99, 99), (0, 0, 0), (-9, 10, 0), (0, 19, 19), (-19, 0, -19), (-5, -5, -5)):
            self.tells(f"box a {low} {high} {first}", [("a", low, high, first)], [])

    def test_four_hundred_values(self):
        for highs in ((19, 19), (19, 19, 0, 0), (0, 19, 0, 19), (9, 9, 3), (3, 3, 4, 4), (19, 1, 9), (18, 6, 2)):
            boxes = [(name, 0, high, 0) for name, high in zip("abcd", highs)]
            self.tells(rows(*[f"box {name} 0 {high} 0" for name, _, high, _ in boxes]), boxes, [])
        self.tells(rows("box a -10 9 0", "box b -99 -80 -90"), [("a", -10, 9, 0), ("b", -99, -80, -90)], [])

    def test_sixty_rows(self):
        self.tells(rows(ONE_BOX, *["stop"] * 59), [("a", 0, 9, 0)], [("stop",)] * 59)
        self.tells(rows(FOUR_BOXES, "mark m", *["go m"] * 55),
                   [("a", 0, 1, 0), ("b", 0, 1, 0), ("c", 0, 1, 0), ("d", 0, 1, 0)], [("mark", "m")] + [("go", 0)] * 55)

    def test_eight_marks(self):
        self.behind_one_box(EIGHT_MARKS, *[("mark", "m" + letter) for letter in "abcdefgh"])

    def test_an_expression_of_sixty_signs(self):
        e = number(12)
        for _ in range(29):
            e = ("-", e, A)
        self.behind_one_box("put a 12" + "-a" * 29, ("put", 0, e))
        self.behind_one_box(rows("mark m", "if 12" + "-a" * 29 + " < 12" + "-a" * 29 + " go m"), ("mark", "m"),
                            ("if", "<", e, e, 0))
        self.refused(NoRow, read, rows(ONE_BOX, "put a 123" + "-a" * 29))
        self.refused(NoRow, read, rows(ONE_BOX, "mark m", "if 123" + "-a" * 29 + " < a go m"))
        self.refused(NoRow, read, rows(ONE_BOX, "mark m", "if a < 123" + "-a" * 29 + " go m"))

    def test_names_that_look_like_words_of_rows(self):
        self.tells(rows("box boxx 0 1 0", "box number 0 1 0", "mark marks", "ask number", "put boxx number", "go marks"),
                   [("boxx", 0, 1, 0), ("number", 0, 1, 0)],
                   [("mark", "marks"), ("ask", 1), ("put", 0, ("box", "number")), ("go", 0)])

    def test_told_lists_are_the_askers_own(self):
        text = rows(TWO_BOXES, "mark m", "ask b", "go m")
        first = read(text)
        kept = copy.deepcopy(first)
        first[0].append("more")
        first[1][0] = "other"
        first[1].clear()
        self.just(read(text), kept)
        self.assertIsNot(read(text)[0], read(text)[0])
        self.assertIsNot(read(text)[1], read(text)[1])
        empty = read(ONE_BOX)
        empty[1].append(("stop",))
        self.just(read(ONE_BOX), ([("a", 0, 9, 0)], []))


class Marks(Case):
    def test_in_the_order_of_the_rows(self):
        self.just(marks_of(read(rows(ONE_BOX, "mark z", "ask a", "mark b", "go z", "mark k"))), ["z", "b", "k"])
        self.just(marks_of(read(rows(ONE_BOX, EIGHT_MARKS))), ["m" + letter for letter in "abcdefgh"])

    def test_marks_alone(self):
        self.just(marks_of(read(rows(TWO_BOXES, "ask a", "put b a", "mark a", "stop"))), ["a"])

    def test_a_program_without_marks(self):
        self.just(marks_of(read(rows(ONE_BOX, "ask a", "stop"))), [])

    def test_a_program_without_statements(self):
        self.just(marks_of(read(ONE_BOX)), [])

    def test_the_told_list_is_the_askers_own(self):
        for text, names in ((rows(ONE_BOX, "mark m", "mark n"), ["m", "n"]), (ONE_BOX, [])):
            program = read(text)
            kept = copy.deepcopy(program)
            told = marks_of(program)
            told.append("more")
            self.just(program, kept)
            self.just(marks_of(program), names)
            self.assertIsNot(marks_of(program), marks_of(program))

    def test_a_program_changed_behind_is_told_as_it_is(self):
        program = read(rows(ONE_BOX, "mark m"))
        self.just(marks_of(program), ["m"])
        program[1].append(("mark", "n"))
        self.just(marks_of(program), ["m", "n"])


class Refusals(Case):
    def refuses(self, error, *lines):
        with self.subTest(lines=lines):
            self.refused(error, read, rows(*lines))

    def test_too_long(self):
        self.refuses(TooLong, ONE_BOX, *["stop"] * 60)
        self.refuses(TooLong, ONE_BOX, *["stop"] * 600)
        self.refuses(TooLong, *[""] * 61)
        self.refuses(TooLong, *["no such row"] * 61)
        self.refuses(TooLong, *["stop"] * 61)
        self.refuses(TooLong, *[ONE_BOX] * 61)
        self.refuses(TooLong, "", ONE_BOX, *["stop"] * 59)
        self.refuses(TooLong, ONE_BOX, *["go m"] * 60)
        self.refuses(TooLong, ONE_BOX, *["stop"] * 59, "")
        self.refuses(NoRow, *["no such row"] * 60)
        self.refuses(NoRow, *[""] * 60)
        self.refuses(NoRow, ONE_BOX, *["stop"] * 58, "")

    def test_rows_of_boxes_otherwise_written(self):
        for row in ("box", "box a", "box a 0", "box a 0 9", "box a 0 9 0 0", "box a 0 9 0 stop", "box 0 9 0",
                    "Box a 0 9 0", "BOX a 0 9 0", "boxx a 0 9 0", "bo a 0 9 0", "a 0 9 0", "box a,0,9,0", "boxa 0 9 0",
                    "box A 0 9 0", "box abcdefghi 0 9 0", "box a1 0 9 0", "box box 0 9 0", "box in 0 9 0",
                    "box 1 0 9 0", "box - 0 9 0", "box a b 9 0", "box a 0 b 0", "box a 0 9 b", "box a a a a",
                    "box a 00 9 0", "box a 0 09 0", "box a 0 9 00", "box a -0 9 0", "box a 0 9 -0", "box a 0 -0 0",
                    "box a +0 9 0", "box a 0 +9 0", "box a 0 9 +1", "box a 1000 1001 1000", "box a 0 1000 0",
                    "box a 0 9 1000", "box a -1000 9 0", "box a 0 9 1+1", "box a --1 9 0", "box a 0 9 (0)",
                    "box a 0 9 1_0", "box a 0 9 " + "1" * 5000):
            self.refuses(NoRow, row)
            self.refuses(NoRow, "box z 0 9 0", row)

    def test_rows_of_statements_otherwise_written(self):
        for row in ("mark", "mark m n", "mark M", "mark 1", "mark mark", "mark go", "mark abcdefghi", "Mark m", "marks m",
                    "m", "mark m:", "mark a+b", "mark (m)", "mark -",
                    "ask", "ask a b", "ask A", "ask 1", "ask ask", "ask abcdefghi", "Ask a", "asks a", "ask a 1",
                    "ask a+b", "ask (a)",
                    "put", "put a", "put a 1 2", "put a a + 1", "put 1 a", "put A 1", "put put 1", "put a+b 1", "Put a 1",
                    "puts a 1", "put a = 1", "put a -1", "put a 1000", "put a 01", "put a (a", "put a a)", "put a a+",
                    "put a if", "put a A", "put a ((((((a))))))", "put a a<b", "put (a) 1", "put abcdefghi 1",
                    "put a " + "(" * 5000, "put a " + "1" * 5000,
                    "go", "go m m", "go M", "go 1", "go go", "go stop", "go to m", "Go m", "goes m", "go abcdefghi",
                    "go (m)", "goto m",
                    "if", "if a", "if a < b", "if a < b go", "if a < b m", "if a < b go m n", "if a < go m",
                    "if < b go m", "if a b go m", "if a <= b go m", "if a > b go m", "if a == b go m", "if a != b go m",
                    "if a - b go m", "if a<b go m", "if a=b go m", "If a < b go m", "if a < b Go m", "if a < b ask m",
                    "if a < b goto m", "if a < b go M", "if a < b go 1", "if a < b go go", "if a < -1 go m",
                    "if -1 = a go m", "if a+ < b go m", "if a < b- go m", "if 1000 < a go m", "if a < 01 go m",
                    "if if < b go m", "if a < stop go m", "if a < b stop", "if a < b go abcdefghi", "if a < b go m stop",
                    "stop 1", "stop a", "stop stop", "Stop", "STOP", "stops", "sto", "end", "in", "not", "in a", "a",
                    "1", "-", "#", "# stop", "NAME", "mark NAME", "E", "NUMBER", "put a E", "put NAME E"):
            self.refuses(NoRow, TWO_BOXES, "mark m", row)
            self.refuses(NoRow, row)

    def test_blanks(self):
        for row in ("box c 0 1 0", "mark n", "ask a", "put a b+1", "go m", "if a < b go m", "stop"):
            for other in (" " + row, row + " ", "  " + row, row + "  "):
                self.refuses(NoRow, TWO_BOXES, "mark m", other)
                self.refuses(NoRow, other)
        for row in ("box  c 0 1 0", "box c  0 1 0", "box c 0 1  0", "mark  n", "ask  a", "put  a b", "put a  b", "go  m",
                    "if  a < b go m", "if a  < b go m", "if a <  b go m", "if a < b  go m", "if a < b go  m"):
            self.refuses(NoRow, TWO_BOXES, row)
            self.refuses(NoRow, row)

    def test_rows_without_signs(self):
        self.refused(NoRow, read, "")
        self.refused(NoRow, read, "\n")
        self.refused(NoRow, read, " ")
        self.refuses(NoRow, "", ONE_BOX)
        self.refuses(NoRow, ONE_BOX, "", "stop")
        self.refuses(NoRow, ONE_BOX, " ", "stop")

    def test_a_text_that_ends_by_a_line_feed(self):
        self.refused(NoRow, read, ONE_BOX + "\n")
        self.refused(NoRow, read, rows(ONE_BOX, "stop") + "\n")
        self.refused(NoRow, read, rows(ONE_BOX, "stop") + "\n\n")

    def test_no_place(self):
        for row in ("mark m", "ask a", "put a 1", "stop", "go m", "if a < 1 go m"):
            self.refuses(NoPlace, ONE_BOX, row, "box b 0 1 0")
            self.refuses(NoPlace, ONE_BOX, row, "box b 0 1 0", "mark m")
        self.refuses(NoPlace, "stop", ONE_BOX)
        self.refuses(NoPlace, "mark m", ONE_BOX)
        self.refuses(NoPlace, "go m", ONE_BOX, "mark m")

    def test_no_measure(self):
        for numbers in ("-100 -90 -95", "-100 -100 -100", "-999 -999 -999", "90 100 95", "100 100 100", "999 999 999",
                        "-100 -99 -99", "99 100 99", "-120 -110 -115", "100 110 105"):
            self.refuses(NoMeasure, "box a " + numbers)
        for numbers in ("0 9 10", "0 9 -1", "0 9 999", "0 9 -999", "5 5 4", "5 5 6", "-9 -1 0", "-9 -1 -10", "1 9 0"):
            self.refuses(NoMeasure, "box a " + numbers)
        for numbers in ("0 20 0", "0 20 10", "0 20 20", "-20 0 0", "-10 10 0", "-99 99 0", "79 99 99", "-99 -79 -99"):
            self.refuses(NoMeasure, "box a " + numbers)
        for numbers in ("9 0 0", "9 0 9", "9 0 5", "1 0 0", "1 0 1", "0 -1 0", "0 -1 -1", "99 -99 0"):
            self.refuses(NoMeasure, "box a " + numbers)
        self.refuses(NoMeasure, ONE_BOX, "box b 0 20 0")
        self.refuses(NoMeasure, TWO_BOXES, "box c 0 1 2")

    def test_the_product_of_the_counts(self):
        for highs in ((14, 8, 2), (2, 8, 14), (16, 11, 1), (19, 19, 1), (0, 19, 19, 1), (1, 1, 9, 10), (19, 6, 2),
                      (3, 3, 4, 5), (19, 19, 19, 19)):
            self.refuses(NoMeasure, *[f"box {name} 0 {high} 0" for name, high in zip("abcd", highs)])
        self.refuses(NoMeasure, "box a -10 9 0", "box b -99 -80 -90", "box c 5 6 5")

    def test_twice(self):
        self.refuses(Twice, ONE_BOX, ONE_BOX)
        self.refuses(Twice, TWO_BOXES, "box a 3 4 3")
        self.refuses(Twice, TWO_BOXES, "box b 3 4 3")
        self.refuses(Twice, ONE_BOX, "mark m", "mark m")
        self.refuses(Twice, ONE_BOX, "mark m", "mark n", "stop", "mark m")
        self.refuses(Twice, ONE_BOX, "mark m", "mark n", "ask a", "mark n")
        self.refuses(Twice, ONE_BOX, "mark a", "mark a")

    def test_full(self):
        self.refuses(Full, FOUR_BOXES, "box e 0 1 0")
        self.refuses(Full, FOUR_BOXES, "box e 0 0 0")
        self.refuses(Full, ONE_BOX, EIGHT_MARKS, "mark n")
        self.refuses(Full, ONE_BOX, EIGHT_MARKS, "stop", "mark n")
        self.refuses(Full, ONE_BOX, EIGHT_MARKS, "mark a")

    def test_no_box_of_that_name(self):
        for row in ("ask c", "put c 1", "put c a", "put a c", "put a c+b", "put a b+c", "put a 2*(a-(b+c))", "put c c",
                    "if c < a go m", "if a < c go m", "if c = a go m", "if a = c go m", "if a < b+c go m",
                    "if a-(c*2) = b go m", "if c < c go m", "ask m", "put m 1", "put a m", "if m < 1 go m",
                    "if 1 = m go m", "ask aa", "put a ab"):
            self.refuses(NoBox, TWO_BOXES, "mark m", row)
            self.refuses(NoBox, row, TWO_BOXES, "mark m")
            self.refuses(NoBox, row)

    def test_no_box_at_all(self):
        self.refuses(NoBox, "stop")
        self.refuses(NoBox, "mark m")
        self.refuses(NoBox, "mark m", "go m")
        self.refuses(NoBox, "mark m", "if 1 < 2 go m")
        self.refuses(NoBox, *["stop"] * 60)
        self.refuses(NoBox, "go m")
        self.refuses(NoBox, "if 1 = 1 go m")

    def test_no_mark(self):
        for row in ("go n", "go a", "if a < 1 go n", "if a = 1 go n", "if a = 1 go a", "go mm", "go b"):
            self.refuses(NoMark, TWO_BOXES, row)
            self.refuses(NoMark, TWO_BOXES, "mark m", row)
            self.refuses(NoMark, TWO_BOXES, row, "mark m")
            self.refuses(NoMark, TWO_BOXES, "mark m", "go m", row, "go m")


class Order(Case):
    def refuses(self, error, *lines):
        with self.subTest(lines=lines):
            self.refused(error, read, rows(*lines))

    def test_no_row_ahead_of_all_others_in_a_row(self):
        self.refuses(NoRow, ONE_BOX, "stop", "box b 0 1")
        self.refuses(NoRow, ONE_BOX, "stop", "box b 0 1 00")
        self.refuses(NoRow, "box a -100 9 x")
        self.refuses(NoRow, "box A 0 20 0")
        self.refuses(NoRow, ONE_BOX, "box a 0 9 01")
        self.refuses(NoRow, FOUR_BOXES, "box E 0 1 0")
        self.refuses(NoRow, ONE_BOX, "mark m", "mark m m")
        self.refuses(NoRow, ONE_BOX, EIGHT_MARKS, "mark N")
        self.refuses(NoRow, ONE_BOX, "put c c+")
        self.refuses(NoRow, ONE_BOX, "put c -1")
        self.refuses(NoRow, ONE_BOX, "if c < c go M")
        self.refuses(NoRow, ONE_BOX, "if c < c+ go m")

    def test_no_place_ahead_of_measure_and_name_and_count(self):
        self.refuses(NoPlace, ONE_BOX, "stop", "box b 0 20 0")
        self.refuses(NoPlace, ONE_BOX, "stop", "box b -100 0 0")
        self.refuses(NoPlace, "box b 0 19 0", "box c 0 19 0", "stop", "box d 0 1 0")
        self.refuses(NoPlace, ONE_BOX, "stop", ONE_BOX)
        self.refuses(NoPlace, FOUR_BOXES, "stop", "box e 0 1 0")
        self.refuses(NoPlace, FOUR_BOXES, "stop", "box a 0 20 0")

    def test_measure_ahead_of_name_and_count(self):
        self.refuses(NoMeasure, ONE_BOX, "box a 0 20 0")
        self.refuses(NoMeasure, ONE_BOX, "box a 0 9 10")
        self.refuses(NoMeasure, "box a 0 19 0", "box b 0 19 0", "box a 0 1 0")
        self.refuses(NoMeasure, FOUR_BOXES, "box e 0 1 2")
        self.refuses(NoMeasure, FOUR_BOXES, "box a 0 20 0")
        self.refuses(NoMeasure, "box a 0 19 0", "box b 0 19 0", "box c 0 0 0", "box d 0 0 0", "box e 0 1 0")
        self.refuses(NoMeasure, "box a 0 19 0", "box b 0 19 0", "box c 0 0 0", "box d 0 0 0", "box a 0 1 0")

    def test_name_ahead_of_count(self):
        for name in "abcd":
            self.refuses(Twice, FOUR_BOXES, f"box {name} 0 1 0")
        for letter in "abcdefgh":
            self.refuses(Twice, ONE_BOX, EIGHT_MARKS, "mark m" + letter)

    def test_of_two_faulty_rows_the_first_counts(self):
        # Each of these rows is faulty behind the boxes and whatever other of them stands ahead.
        faults = ((NoRow, "mark"), (NoMeasure, "box b 0 20 0"), (Twice, "box a 0 1 0"), (NoBox, "ask c"),
                  (NoBox, "if a < c go m"), (NoRow, ""), (NoBox, "put a c"), (NoRow, "put a 1+"))
        for (error, row), (other, behind) in itertools.permutations(faults, 2):
            self.refuses(error, ONE_BOX, row, behind)
            self.refuses(error, ONE_BOX, row, behind, "go nowhere")

    def test_the_product_counts_in_its_own_row(self):
        wide = rows("box a 0 19 0", "box b 0 19 0")
        for behind in ("box a 0 0 0", "mark", "ask z", "", "box d 0 0 0"):
            self.refuses(NoMeasure, wide, "box c 0 1 0", behind)
        self.refuses(Twice, wide, "box a 0 0 0", "box c 0 1 0")
        self.refuses(NoRow, wide, "mark", "box c 0 1 0")
        self.refuses(NoBox, wide, "ask c", "box c 0 1 0")

    def test_a_fault_behind_a_statement(self):
        faults = ((NoRow, "mark"), (NoPlace, "box b 0 20 0"), (Twice, "mark m"), (NoBox, "ask c"), (NoRow, " "))
        for (error, row), (other, behind) in itertools.permutations(faults, 2):
            self.refuses(error, ONE_BOX, "mark m", row, behind)
            self.refuses(error, ONE_BOX, "mark m", "stop", row, "stop", behind)
        self.refuses(Full, ONE_BOX, EIGHT_MARKS, "mark n", "mark")
        self.refuses(NoRow, ONE_BOX, EIGHT_MARKS, "mark", "mark n")
        self.refuses(Full, FOUR_BOXES, "box e 0 1 0", "box")
        self.refuses(NoRow, FOUR_BOXES, "box", "box e 0 1 0")

    def test_faulty_rows_ahead_of_and_behind_a_jump_to_no_mark(self):
        faults = ((NoRow, "mark"), (NoPlace, "box b 0 1 0"), (Twice, "mark m"), (NoBox, "ask c"), (NoRow, ""),
                  (NoBox, "put a c"), (NoBox, "if c = 1 go m"))
        for error, row in faults:
            for jump in ("go n", "if a < 1 go n"):
                self.refuses(error, ONE_BOX, "mark m", jump, row)
                self.refuses(error, ONE_BOX, "mark m", row, jump)
        self.refuses(Full, ONE_BOX, "go n", EIGHT_MARKS, "mark k")
        self.refuses(Full, FOUR_BOXES, "box e 0 1 0", "go n")
        self.refuses(NoMeasure, "box a 0 20 0", "go n")

    def test_no_box_of_a_name_ahead_of_no_mark_in_one_row(self):
        self.refuses(NoBox, ONE_BOX, "if c < 1 go n")
        self.refuses(NoBox, ONE_BOX, "if 1 = c go n")

    def test_faulty_rows_ahead_of_no_box_at_all(self):
        self.refuses(NoRow, "stop", "mark")
        self.refuses(Twice, "mark m", "mark m")
        self.refuses(Full, EIGHT_MARKS, "mark n")
        self.refuses(NoPlace, "stop", "box a 0 20 0")
        self.refuses(NoMeasure, "box a 0 20 0")

    def test_no_box_at_all_ahead_of_no_mark(self):
        self.refuses(NoBox, "go n")
        self.refuses(NoBox, "mark m", "go n")
        self.refuses(NoBox, "if 1 < 1 go n", "stop")

    def test_too_long_ahead_of_all_others(self):
        for row in ("mark", "", "box b 0 20 0", ONE_BOX, "ask c", "go n", "mark m"):
            self.refuses(TooLong, ONE_BOX, *[row] * 60)
            self.refuses(TooLong, *[row] * 61)
            self.refuses(TooLong, ONE_BOX, *["stop"] * 59, row)
            self.refuses(TooLong, row, ONE_BOX, *["stop"] * 59)

    def test_a_refused_text_leaves_nothing_behind(self):
        text = rows(ONE_BOX, "mark m", "go m")
        kept = copy.deepcopy(read(text))
        self.refuses(Full, FOUR_BOXES, "box e 0 1 0")
        self.refuses(Twice, ONE_BOX, "mark m", "mark m")
        self.just(read(text), kept)


if __name__ == "__main__":
    unittest.main()
