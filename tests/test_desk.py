import copy
import random
import unittest

from support import Case, made_text, rows
from sayswho.desk import Desk
from sayswho.errors import (Full, NoBox, NoForm, NoMark, NoMeasure, NoneYet, NoPlace, NoRow, NoSaying, NotSeen, SayError,
                            TooLong, Twice)
from sayswho.follows import thinned
from sayswho.forms import sayings, shown_saying
from sayswho.judge import judged, settled
from sayswho.machine import run
from sayswho.reader import marks_of, read
from sayswho.seen import held

LOOP = ("box a 0 9 0", "mark top", "ask a", "if a < 5 go top", "mark done")
ASKED = ("box a -2 3 0", "mark top", "ask a", "mark m", "if a < 0 go top", "ask a", "mark n", "stop", "mark never")
SQUARE = ("box a 0 3 0", "box b 0 9 0", "ask a", "put b a*a", "mark m", "put b b-a*a", "mark n")
# By the number asked for it ends in each way: 0 at the end, 1 far, 2 round, 3 out, 4 by a stop.
ENDS = ("box a 0 4 4", "ask a", "mark m", "if a = 1 go far", "if a = 2 go round", "if a = 3 go out", "if a = 4 go halt",
        "go over", "mark far", "put a 9", "mark round", "go round", "mark out", "ask a", "mark halt", "stop", "mark over")
BOXES = (("box a -2 3 1",), ("box a -1 1 0", "box b 0 1 1"), ("box a 0 1 0", "box b -1 1 0", "box c 0 2 1"))


def desk_of(lines, *said):
    desk = Desk()
    for line in lines:
        desk.say("row " + line)
    desk.say("read")
    for row in said:
        desk.say(row)
    return desk


def outcome(desk, row):
    try:
        return desk.say(row)
    except SayError as error:
        return error.__class__.__name__


def shown(desk):
    # All that can be asked of a copy of the desk, its rows by what they are read as.
    told = []
    for row in ("held top", "held done", "held m", "judge top", "judge done", "judge m", "why top a = 0", "why top a <= 3",
                "why done a >= 5", "why m a = 0", "run 3 3 7", "settle", "held top", "read", "held top", "run 1", "held top",
                "row", "read", "drop", "read"):
        told.append(outcome(desk, row))
    return told


class Desks(Case):
    def says(self, desk, row, expected):
        with self.subTest(row=row):
            self.just(desk.say(row), expected)

    def refuses(self, desk, error, *said):
        # What is refused changes nothing.
        for row in said:
            with self.subTest(row=row):
                before = shown(copy.deepcopy(desk))
                self.refused(error, desk.say, row)
                self.assertEqual(shown(copy.deepcopy(desk)), before)


class Rows(Desks):
    def test_ok(self):
        desk = Desk()
        for row in ("row box a 0 9 0", "row mark m", "row ", "row  ", "row x", "row row", "row   three  blanks  ", "row 99 (",
                    "row drop", "row read", "row ; ~ !", "row settle now", "row " + "x" * 10000):
            self.says(desk, row, "ok")

    def test_rows_are_read_as_they_are_told(self):
        desk = Desk()
        desk.say("row box a 0 9 0")
        for line, error in (("", NoRow), (" ", NoRow), (" mark m", NoRow), ("mark m ", NoRow), ("mark  m", NoRow),
                            ("ask b", NoBox), ("go m", NoMark), ("box a 0 9 0", Twice), ("box b 9 0 0", NoMeasure)):
            other = copy.deepcopy(desk)
            self.says(other, "row " + line, "ok")
            self.refused(error, other.say, "read")

    def test_any_number_of_rows(self):
        desk = Desk()
        desk.say("row box a 0 9 0")
        for _ in range(59):
            self.says(desk, "row ask a", "ok")
        self.says(desk, "read", "marks 0")
        for _ in range(200):
            self.says(desk, "row ask a", "ok")
        self.refuses(desk, TooLong, "read")

    def test_drop(self):
        desk = Desk()
        self.says(desk, "drop", "ok")
        desk.say("row box a 0 9 0")
        desk.say("row nonsense")
        self.says(desk, "drop", "ok")
        self.refuses(desk, NoRow, "read")
        desk.say("row box b 0 9 0")
        self.says(desk, "read", "marks 0")
        self.says(desk, "drop", "ok")
        self.says(desk, "drop", "ok")

    def test_drop_leaves_the_program(self):
        desk = desk_of(LOOP, "run 3 7", "drop")
        self.says(desk, "held done", "a = 7")
        self.says(desk, "run 9", "end 16")
        self.refuses(desk, NoRow, "read")


class Reads(Desks):
    def test_how_many_marks(self):
        for count in range(9):
            desk = Desk()
            desk.say("row box a 0 9 0")
            for name in "abcdefgh"[:count]:
                desk.say("row mark " + name)
            self.says(desk, "read", f"marks {count}")

    def test_no_rows(self):
        self.refuses(Desk(), NoRow, "read")

    def test_one_row_without_signs(self):
        desk = Desk()
        desk.say("row ")
        self.refuses(desk, NoRow, "read")

    def test_rows_stay_behind_it(self):
        desk = desk_of(LOOP)
        self.says(desk, "read", "marks 2")
        desk.say("row mark more")
        self.says(desk, "read", "marks 3")
        desk.say("drop")
        for line in LOOP[:2]:
            desk.say("row " + line)
        self.says(desk, "read", "marks 1")

    def test_rows_stay_behind_a_refused_one(self):
        desk = Desk()
        desk.say("row mark m")
        self.refuses(desk, NoBox, "read")
        desk.say("row box a 0 9 0")
        self.refuses(desk, NoPlace, "read")
        self.refuses(desk, NoPlace, "read")

    def test_a_keeper_anew(self):
        desk = desk_of(LOOP, "run 3 7", "run 9")
        self.says(desk, "read", "marks 2")
        self.says(desk, "held top", "unseen")
        self.says(desk, "held done", "unseen")
        self.refuses(desk, NotSeen, "judge top", "why done a = 7")
        self.says(desk, "run 9", "end 0")
        self.says(desk, "held done", "a = 9")
        self.says(desk, "why done a = 7", "fallen 1")

    def test_the_elder_program_stands_till_the_next_read(self):
        desk = desk_of(LOOP, "run 3 7")
        desk.say("drop")
        for line in SQUARE:
            desk.say("row " + line)
        self.says(desk, "held done", "a = 7")
        self.says(desk, "why done a not 6", "broken 6")
        self.refuses(desk, NoMark, "held m", "judge n")
        self.refuses(desk, NoSaying, "why done b = 0")
        self.says(desk, "run 9", "end 16")
        self.says(desk, "read", "marks 2")
        self.refuses(desk, NoMark, "held done", "why top a = 0")
        self.says(desk, "held m", "unseen")

    def test_the_elder_program_stands_where_read_is_refused(self):
        desk = desk_of(LOOP, "run 3 7", "row nonsense")
        self.refuses(desk, NoRow, "read")
        self.says(desk, "held done", "a = 7")
        self.says(desk, "run 9", "end 16")
        self.says(desk, "why done a = 7", "fallen 2")

    def test_what_read_refuses(self):
        for lines, error in ((["box a 0 9 0"] * 61, TooLong), (["box a 0 9"], NoRow), (["mark m", "box a 0 9 0"], NoPlace),
                             (["box a 0 20 0"], NoMeasure), (["box a 0 9 0", "mark m", "mark m"], Twice),
                             (["box a 0 1 0", "box b 0 1 0", "box c 0 1 0", "box d 0 1 0", "box e 0 1 0"], Full),
                             (["box a 0 9 0", "put b 1"], NoBox), (["mark m"], NoBox), (["box a 0 9 0", "go m"], NoMark)):
            for desk in (Desk(), desk_of(LOOP, "run 3 7", "drop")):
                for line in lines:
                    desk.say("row " + line)
                self.refuses(desk, error, "read")


class Runs(Desks):
    def test_each_end(self):
        desk = desk_of(ENDS)
        for row, expected in (("run 0", "end 0"), ("run", "out 0"), ("run 5", "far 0 0"), ("run -5", "far 0 0"),
                              ("run 0 1 2", "end 0")):
            self.says(desk, row, expected)
        for row, expected in (("run 1", "far 8 0"), ("run 2", "round 0"), ("run 3", "out 0"), ("run 4", "end 0"),
                              ("run 3 0", "end 0"), ("run 3 9", "far 12 0")):
            self.says(desk_of(ENDS), row, expected)

    def test_how_many_fell(self):
        desk = desk_of(("box a 0 2 0", "ask a", "mark m"))
        self.says(desk, "run 0", "end 0")
        self.says(desk, "run 1", "end 9")
        self.says(desk, "run 0", "end 0")
        self.says(desk, "run 7", "far 0 0")
        self.says(desk, "run", "out 0")
        self.says(desk, "run 2", "end 3")
        # a = 0, a <= 0, five rests, a in 0 2 to a in 0 4, a not 1 fall at m.
        desk = desk_of(ENDS, "run 0")
        self.says(desk, "run 1", "far 8 11")

    def test_forty_numbers(self):
        desk = desk_of(LOOP)
        self.says(desk, "run" + " 1" * 40, "out 0")
        self.refuses(desk, NoForm, "run" + " 1" * 41, "run" + " 1" * 41 + " x", "run" + " 1" * 500)
        self.says(desk, "run" + " 1" * 39 + " 9", "end 0")
        self.says(desk, "held done", "a = 9")
        desk = desk_of(("box a -99 -80 -99", "mark m", "ask a", "go m"))
        self.says(desk, "run" + " -99" * 40, "out 0")
        self.says(desk, "run" + " -99" * 39 + " 999", "far 1 0")

    def test_numbers_of_each_length(self):
        desk = desk_of(LOOP)
        for row in ("run 0", "run 10", "run 999", "run -1", "run -99", "run -999", "run 1 -1", "run 1 100"):
            self.assertRegex(desk.say(row), r"\A(out|far 1|end) [0-9]+\Z")
        self.says(desk, "run 999", "far 1 0")

    def test_a_program_without_rows_or_marks(self):
        desk = desk_of(("box a 0 9 0",))
        self.says(desk, "run", "end 0")
        self.says(desk, "run 1 2 3", "end 0")
        self.says(desk, "settle", "0 0")


class Held(Desks):
    def test_unseen(self):
        desk = desk_of(ASKED)
        for mark in ("top", "m", "n", "never"):
            self.says(desk, "held " + mark, "unseen")
        desk.say("run 1")
        self.says(desk, "held top", "a = 0")
        self.says(desk, "held m", "a = 1")
        self.says(desk, "held n", "unseen")
        self.says(desk, "held never", "unseen")

    def test_none(self):
        desk = desk_of(("box a 0 2 0", "ask a", "mark m"), "run 0", "run 1", "run 2")
        self.says(desk, "held m", "none")
        # All that is so of all values follows from nothing.
        desk = desk_of(("box a 5 5 5", "mark m"), "run")
        self.says(desk, "held m", "none")

    def test_several(self):
        desk = desk_of(LOOP, "run 3 7", "run 9")
        self.says(desk, "held done", "a >= 6; a rest 2 = 1")
        self.says(desk, "held top", "a <= 3; a rest 3 = 0")
        desk = desk_of(SQUARE, "run 1", "run 2", "run 3")
        program = read(rows(*SQUARE))
        for mark in ("m", "n"):
            some = thinned(program, held(program, [[1], [2], [3]], mark))
            self.assertGreater(len(some), 1)
            self.says(desk, "held " + mark, "; ".join([shown_saying(program, saying) for saying in some]))

    def test_each_form_is_written(self):
        for lines, said, expected in (
                (("box a 0 1 0", "mark m"), ["run"], "a = 0"),
                (("box a -3 3 0", "ask a", "mark m"), ["run 1", "run 2", "run 3"], "a >= 1"),
                (("box a -3 3 0", "ask a", "mark m"), ["run -3", "run -2", "run -1"], "a <= -1"),
                (("box a 0 9 0", "ask a", "mark m"), ["run 0", "run 4", "run 8"], "a rest 4 = 0"),
                (("box a 0 2 0", "ask a", "mark m"), ["run 0", "run 2"], "a rest 2 = 0"),
                (("box a 0 9 0", "ask a", "mark m"), ["run 0", "run 9"], "a in 0 9"),
                (("box a 0 3 0", "ask a", "mark m"), ["run 0", "run 1", "run 3"], "a not 2"),
                (("box a 0 1 0", "box b 0 1 0", "ask a", "put b a", "mark m"), ["run 0", "run 1"], "a = b")):
            self.says(desk_of(lines, *said), "held m", expected)

    def test_marks_that_bear_a_boxs_name(self):
        desk = desk_of(("box a 0 9 4", "mark a"), "run")
        self.says(desk, "held a", "a = 4")


class Judges(Desks):
    def test_shown_broken_and_open(self):
        desk = desk_of(LOOP, "run 3 7", "run 9")
        self.says(desk, "judge top", "10 6 0")
        self.says(desk, "judge done", "10 7 0")
        program = read(rows(*SQUARE))
        desk = desk_of(SQUARE, "run 1")
        for mark in ("m", "n"):
            told = [verdict for name, _, verdict in judged(program, [[1]]) if name == mark]
            counts = [told.count("shown"), len([each for each in told if isinstance(each, tuple)]), told.count("open")]
            self.says(desk, "judge " + mark, " ".join(map(str, counts)))
        self.assertGreater(told.count("open"), 0)

    def test_none_held(self):
        desk = desk_of(("box a 0 2 0", "ask a", "mark m"), "run 0", "run 1", "run 2")
        self.says(desk, "judge m", "0 0 0")

    def test_it_changes_nothing(self):
        desk = desk_of(LOOP, "run 3 7")
        before = shown(copy.deepcopy(desk))
        for row in ("judge top", "judge done", "held top", "why done a = 7", "why top a = 1"):
            desk.say(row)
        self.assertEqual(shown(desk), before)


class Why(Desks):
    def test_each_answer(self):
        desk = desk_of(LOOP, "run 3 7", "run 9")
        self.says(desk, "why done a >= 5", "shown")
        self.says(desk, "why done a >= 6", "broken 5")
        self.says(desk, "why done a rest 2 = 1", "broken 6")
        self.says(desk, "why done a = 9", "fallen 1")
        self.says(desk, "why done a = 7", "fallen 2")
        self.says(desk, "why top a in 0 3", "broken 1")
        self.says(desk, "why top a <= 4", "shown")
        desk = desk_of(SQUARE, "run 1")
        self.says(desk, "why n b = 0", "open")
        self.says(desk, "why n b <= a", "open")
        self.says(desk, "why n a = 1", "broken 0")
        self.says(desk, "why n b < a", "broken 0")
        self.says(desk, "why n a < b", "fallen 1")
        self.says(desk, "why m a <= b", "shown")

    def test_several_numbers_and_such_below_nought(self):
        desk = desk_of(ASKED, "run -1 2 2")
        self.says(desk, "why n a = 2", "broken 0 -2")
        self.says(desk, "why n a not 1", "broken 0 1")
        self.says(desk, "why top a >= -1", "broken -2")

    def test_the_run_that_it_fell_by(self):
        desk = desk_of(("box a 0 2 0", "ask a", "mark m"), "run", "run 1", "run 9", "run 1", "run 2", "run 0")
        self.says(desk, "why m a = 2", "fallen 2")
        self.says(desk, "why m a = 1", "fallen 5")
        self.says(desk, "why m a >= 1", "fallen 6")

    def test_each_saying_by_its_text(self):
        for lines, runs in ((LOOP, [[3, 7], [9]]), (SQUARE, [[1], [2]]), (ASKED, [[-1, 2, 2], [0]])):
            program = read(rows(*lines))
            desk = desk_of(lines, *["run " + " ".join(map(str, numbers)) for numbers in runs])
            told = {(mark, saying): verdict for mark, saying, verdict in judged(program, runs)}
            for mark in marks_of(program):
                for saying in sayings(program)[::7]:
                    if held(program, runs, mark) is not None:
                        verdict = told.get((mark, saying), "fallen")
                        if isinstance(verdict, tuple):
                            verdict = " ".join(["broken"] + [str(number) for number in verdict[1]])
                        answer = desk.say(f"why {mark} {shown_saying(program, saying)}")
                        self.assertEqual(answer.split(" ")[0] if verdict == "fallen" else answer, verdict)


class Settles(Desks):
    def test_how_many_were_put_in_and_how_many_hold(self):
        desk = desk_of(("box a 0 2 0", "ask a", "mark m"))
        self.says(desk, "settle", "3 0")
        self.says(desk, "settle", "0 0")
        desk = desk_of(("box a 0 2 0", "ask a", "put a 0", "mark m", "ask a", "put a 0", "mark n"), "run 1")
        count = len(held(read(rows("box a 0 2 0", "mark m")), [[]], "m"))
        self.says(desk, "settle", f"1 {2 * count}")
        self.says(desk, "settle", f"0 {2 * count}")
        desk = desk_of(LOOP, "run 3 7", "run 9")
        self.says(desk, "settle", "6 20")
        self.says(desk, "settle", "0 20")

    def test_not_thinned(self):
        desk = desk_of(("box a 5 5 5", "mark m"))
        self.says(desk, "settle", f"1 {len(held(read(rows('box a 5 5 5', 'mark m')), [[]], 'm'))}")
        self.says(desk, "held m", "none")

    def test_marks_that_cannot_be_passed(self):
        desk = desk_of(("box a 0 9 0", "stop", "mark m"))
        self.says(desk, "settle", "0 0")
        self.says(desk, "held m", "unseen")

    def test_the_keepers_runs_are_settled(self):
        # At top a <= 3, a not 1 and a not 2 are broken, then at done a = 7, a <= 7, a <= 8 and a not 6.
        self.just(settled(read(rows(*LOOP)), [[3, 7]]), [[3, 7], [4], [1], [2], [5], [8], [9], [6]])
        desk = desk_of(LOOP, "run 3 7")
        self.says(desk, "settle", "7 20")
        self.says(desk, "held top", "a <= 4")
        self.says(desk, "held done", "a >= 5")
        self.says(desk, "judge top", "10 0 0")
        self.says(desk, "why top a rest 3 = 0", "fallen 2")
        self.says(desk, "why done a = 7", "fallen 5")
        self.says(desk, "why done a rest 2 = 1", "fallen 6")
        self.says(desk, "why done a not 6", "fallen 8")
        self.says(desk, "run 1 1 8", "end 0")
        self.says(desk, "why done a = 7", "fallen 5")

    def test_runs_that_come_behind(self):
        desk = desk_of(("box a 0 2 0", "mark m", "ask a", "put a 0", "mark n"), "settle")
        self.says(desk, "why n a = 1", "fallen 2")
        desk.say("run 2")
        self.says(desk, "why n a = 1", "fallen 2")


class Refused(Desks):
    def desks(self):
        return (Desk(), desk_of(LOOP), desk_of(LOOP, "run 3 7", "run 9"), desk_of(LOOP, "run 3 7", "row mark more"))

    def test_no_form(self):
        for desk in self.desks():
            self.refuses(desk, NoForm, "", " ", "x", "rows", "row", "ro w", "Row x", "ROW x", " row x", "rowx", "row\tx",
                         "drop ", " drop", "drop x", "drop drop", "Drop", "drops", "read ", " read", "read x", "reads",
                         "settle ", "settle 1", "settles", "se ttle", "help", "runs", "ok", "row;")

    def test_numbers_that_are_none(self):
        for desk in self.desks():
            self.refuses(desk, NoForm, "run ", "run  1", "run 1 ", "run 1  2", "run x", "run 01", "run -0", "run +1", "run 1000",
                         "run -1000", "run 00", "run -", "run --1", "run 1,2", "run 1.0", "run 1 x", "run - 1", "run a",
                         "run 1-1", "run 1_0", "run " + "9" * 5000, "run " + "0" * 5000, " run", "run1", "run 0x1", "run (1)")

    def test_marks_that_are_no_names(self):
        for desk in self.desks():
            for word in ("held", "judge"):
                self.refuses(desk, NoForm, word, word + " ", word + "  top", word + " top ", word + " top done",
                             word + " Top", word + " to1", word + " toolongaa", word + " box", word + " not", word + " in",
                             word + " top;", " " + word + " top", word + "top", word + " -", word + " 1")
            self.refuses(desk, NoForm, "why", "why ", "why top", "why  top a = 0", "why  ", "why Top a = 0", "why box a = 0",
                         "why in a = 0", "why t0p a = 0", "why toolongaa a = 0", " why top a = 0", "why 1 a = 0", "whytop a = 0",
                         "why -top a = 0", "why go a = 0")

    def test_a_line_feed(self):
        for desk in self.desks():
            self.refuses(desk, NoForm, "row mark m\n", "row \n", "row\nx", "row a\nb", "\nrow x", "drop\n", "read\n", "\nread",
                         "run\n", "run 1\n", "run 1\n2", "held top\n", "judge top\n", "why top a = 0\n", "why top a\n= 0",
                         "why top \n", "settle\n", "\n", "held\ntop")

    def test_what_is_no_text(self):
        for desk in self.desks():
            self.refuses(desk, NoForm, None, True, False, 0, 7, -1, [], ["drop"], ["row", "x"], (), ("drop",), {}, {"drop": "x"},
                         ["d", "r", "o", "p"], [[]], ("read", "x"))

    def test_none_yet(self):
        desk = Desk()
        for lines in ((), LOOP):
            for line in lines:
                desk.say("row " + line)
            self.refuses(desk, NoneYet, "run", "run 1", "held top", "held nope", "judge top", "judge nope", "why top a = 0",
                         "why nope x", "why top ", "why top nonsense", "settle")

    def test_none_yet_behind_a_refused_read(self):
        desk = Desk()
        desk.say("row nonsense")
        self.refuses(desk, NoRow, "read")
        self.refuses(desk, NoneYet, "run", "held top", "judge top", "why top a = 0", "settle")

    def test_no_mark(self):
        for desk in self.desks()[1:]:
            self.refuses(desk, NoMark, "held nope", "judge nope", "why nope a = 0", "held a", "judge a", "why a a = 0",
                         "held more", "held tops", "held to")

    def test_no_saying(self):
        for desk in self.desks()[1:]:
            self.refuses(desk, NoSaying, "why top x", "why top ", "why top  a = 0", "why top a = 0 ", "why top a = 10",
                         "why top b = 0", "why top a  = 0", "why top a >= 0", "why top a == 0", "why top a=0", "why top top",
                         "why top a", "why done a rest 7 = 0", "why done a = 07", "why done a in 5 3", "why done 3 = a",
                         "why done a < a", "why done a = 1000", "why done A = 1", "why done " + "x" * 5000)

    def test_not_seen(self):
        desk = desk_of(LOOP)
        self.refuses(desk, NotSeen, "judge top", "judge done", "why top a = 0", "why done a >= 5")
        desk.say("run 3")
        self.refuses(desk, NotSeen, "judge done", "why done a >= 5", "why done a = 0")
        self.says(desk, "judge top", "10 6 0")

    def test_the_first_of_two(self):
        # NoForm ahead of all others.
        self.refuses(Desk(), NoForm, "run x", "held box", "judge", "why nope", "settle x", "run" + " 1" * 41, "read x")
        # What read refuses ahead of NoneYet.
        self.refuses(Desk(), NoRow, "read")
        # NoneYet ahead of NoMark, NoSaying and NotSeen.
        self.refuses(Desk(), NoneYet, "held nope", "judge nope", "why nope x", "why top x", "why top a = 0")
        # NoMark ahead of NoSaying and NotSeen.
        self.refuses(desk_of(LOOP), NoMark, "why nope x", "why nope a = 0", "judge nope")
        # NoSaying ahead of NotSeen.
        self.refuses(desk_of(LOOP), NoSaying, "why top x", "why done a = 10", "why top ")
        self.refuses(desk_of(LOOP, "run 3"), NoSaying, "why done x")
        self.refuses(desk_of(LOOP, "run 3"), NotSeen, "why done a = 3")

    def test_rows_program_runs_and_what_held_stay(self):
        desk = desk_of(LOOP, "run 3 7")
        for row in ("run" + " 1" * 41, "run 9 x", "row mark more\n", "drop ", "read x", "settle 1", "why done x", "held nope"):
            with self.assertRaises(SayError):
                desk.say(row)
        self.says(desk, "held done", "a = 7")
        self.says(desk, "run 9", "end 16")
        self.says(desk, "why done a = 7", "fallen 2")
        self.says(desk, "read", "marks 2")


class Beside(Desks):
    def test_two_desks(self):
        first = desk_of(LOOP, "run 3 7")
        second = Desk()
        self.refuses(second, NoneYet, "run", "held top")
        self.refuses(second, NoRow, "read")
        for line in SQUARE:
            second.say("row " + line)
        second.say("read")
        second.say("run 1")
        self.says(first, "held done", "a = 7")
        self.refuses(second, NoMark, "held done")
        first.say("drop")
        self.says(second, "read", "marks 2")
        third = desk_of(LOOP)
        self.says(third, "held done", "unseen")
        third.say("run 9")
        self.says(first, "held done", "a = 7")
        self.says(third, "held done", "a = 9")


class Talks(Desks):
    # Long talks, each answer by what the other modules tell of the runs so far.
    def expected(self, program, runs, row):
        words = row.split(" ")
        if words[0] == "run":
            numbers = [int(word) for word in words[1:]]
            fallen = 0
            for mark in marks_of(program):
                ahead = held(program, runs, mark)
                if ahead is not None:
                    fallen += len(ahead) - len(held(program, runs + [numbers], mark))
            runs.append(numbers)
            return " ".join([str(part) for part in run(program, numbers)[1] + (fallen,)])
        if words[0] == "held":
            some = held(program, runs, words[1])
            if some is None:
                return "unseen"
            return "; ".join([shown_saying(program, saying) for saying in thinned(program, some)]) or "none"
        if words[0] == "settle":
            more = settled(program, runs)
            put_in = len(more) - len(runs)
            runs[:] = more
            return f"{put_in} {sum(len(held(program, runs, mark) or []) for mark in marks_of(program))}"
        told = [verdict for mark, _, verdict in judged(program, runs) if mark == words[1]]
        if held(program, runs, words[1]) is None:
            return "NotSeen"
        counts = (told.count("shown"), len([each for each in told if isinstance(each, tuple)]), told.count("open"))
        return " ".join([str(count) for count in counts])

    def test_made_programs(self):
        chance = random.Random(51)
        for boxes in BOXES:
            for _ in range(12):
                text = made_text(chance, *boxes)
                program = read(text)
                desk = desk_of(text.split("\n"))
                runs = []
                for _ in range(14):
                    numbers = "".join([" " + str(chance.randrange(-2, 4)) for _ in range(chance.randrange(5))])
                    row = chance.choice(["run" + numbers] * 3 + ["held m", "held n", "judge m", "judge k", "settle"])
                    with self.subTest(text=text, row=row, runs=runs):
                        expected = self.expected(program, runs, row)
                        self.assertEqual(outcome(desk, row), expected)


if __name__ == "__main__":
    unittest.main()
