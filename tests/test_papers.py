import copy
import itertools
import random
import unittest

from plain import Plain
from support import Case, every, made_text, rows
from sayswho.forms import is_so, read_saying, sayings, shown_saying
from sayswho.papers import greatest, is_right
from sayswho.reader import marks_of, read
from sayswho.ways import first_of, next_of, passable

# At m a is 0 to 3, at end 3; from 4 a run would come to 5, and from 5 to nothing more.
COUNT = read(rows("box a 0 5 0", "mark m", "if a = 3 go end", "put a a+1", "go m", "mark end"))
ASKED = read(rows("box a -2 3 0", "ask a", "mark m", "if a < 0 go n", "ask a", "mark n"))
# No way leads to dead, but from it one would lead to m.
DEAD = read(rows("box a 0 5 0", "mark m", "ask a", "if a < 4 go m", "stop", "mark dead", "put a 5", "go m"))
SQUARE = read(rows("box a 0 3 0", "box b 0 9 0", "ask a", "put b a*a", "mark m", "put b b-a*a", "mark n"))
THREE = read(rows("box a 0 2 0", "box b 0 2 0", "box c 0 4 0", "mark m", "ask a", "ask b", "put c a+b", "mark n",
                  "if a < b go m", "mark k"))
BOXES = (("box a -2 3 1",), ("box a -1 1 0", "box b 0 1 1"), ("box a 0 1 0", "box b -1 1 0", "box c 0 2 1"))


def paper_of(program, **texts):
    return [(mark, [read_saying(program, text) for text in texts.get(mark, [])]) for mark in marks_of(program)]


def is_right_by_words(program, paper):
    # Point 18 by its very words.
    told = dict(paper)
    let_by = [(mark, values) for mark in told for values in every(program)
              if all(is_so(saying, values) for saying in told[mark])]
    come = first_of(program) + [each for mark, values in let_by for each in next_of(program, mark, values)]
    return all(is_so(saying, values) for mark, values in come for saying in told[mark])


def struck(program, paper):
    # Point 19 by a plain walk: whatever the start, or what comes next of what is let by, breaks is struck.
    while not is_right_by_words(program, paper):
        told = dict(paper)
        let_by = [(mark, values) for mark in told for values in every(program)
                  if all(is_so(saying, values) for saying in told[mark])]
        come = first_of(program) + [each for mark, values in let_by for each in next_of(program, mark, values)]
        paper = [(mark, [saying for saying in some if all(is_so(saying, values) for name, values in come if name == mark)])
                 for mark, some in paper]
    return paper


def some_paper(chance, program):
    # Mostly of what can be shown, so that right papers come up often enough.
    told = []
    for mark, values in passable(program):
        some = sayings(program)
        if chance.random() < 0.7:
            some = [saying for saying in some if all(is_so(saying, each) for each in values)]
        told.append((mark, [chance.choice(some) for _ in range(chance.randrange(7))] if some else []))
    return told


class Right(Case):
    def right(self, program, **texts):
        with self.subTest(texts=texts):
            self.answers(True, is_right, program, paper_of(program, **texts))

    def wrong(self, program, **texts):
        with self.subTest(texts=texts):
            self.answers(False, is_right, program, paper_of(program, **texts))

    def test_the_paper_without_sayings(self):
        for program in (COUNT, ASKED, DEAD, SQUARE, THREE):
            self.right(program)

    def test_what_the_start_has_and_each_step_keeps(self):
        self.right(COUNT, m=["a <= 3"])
        self.right(COUNT, m=["a <= 3"], end=["a = 3"])
        self.right(COUNT, end=["a = 3", "a >= 2", "a not 5"])

    def test_a_first_statement_that_is_a_mark(self):
        # Just with the firsts is it passed first, whatever comes next.
        program = read(rows("box a 0 9 4", "mark m", "put a a+1", "mark n"))
        self.right(program, m=["a = 4"])
        self.right(program, m=["a = 4"], n=["a = 5"])
        self.wrong(program, m=["a = 5"])
        self.wrong(program, m=["a = 5"], n=["a = 6"])
        self.wrong(program, n=["a = 5"])
        self.right(program, n=["a >= 1"])

    def test_a_first_statement_that_is_none(self):
        for n in range(-2, 4):
            self.wrong(ASKED, m=[f"a not {n}"])
        program = read(rows("box a 0 9 4", "put a a+1", "mark m"))
        self.right(program, m=["a = 5"])
        self.wrong(program, m=["a = 4"])

    def test_a_saying_that_the_start_breaks(self):
        self.wrong(COUNT, m=["a >= 1"])
        self.wrong(COUNT, m=["a <= 3", "a not 0"])
        self.wrong(COUNT, m=["a = 1", "a = 2"])

    def test_the_start_comes_to_some_marks_alone(self):
        program = read(rows("box a 0 3 0", "ask a", "if a < 2 go n", "mark m", "stop", "mark n"))
        self.right(program, m=["a >= 2"], n=["a <= 1"])
        self.wrong(program, m=["a <= 1"])
        self.wrong(program, n=["a >= 2"])
        self.wrong(program, m=["a = 3"], n=["a <= 1"])

    def test_a_saying_that_only_what_comes_next_breaks(self):
        self.wrong(COUNT, m=["a = 0"])
        self.wrong(COUNT, m=["a <= 2"])
        self.wrong(COUNT, m=["a rest 2 = 0"])
        self.wrong(COUNT, m=["a <= 3"], end=["a = 2"])

    def test_values_that_no_run_passes(self):
        # No run passes m with 4, but of 4 all sayings are so, and 5 comes of it.
        self.wrong(COUNT, m=["a <= 4"])
        self.wrong(COUNT, m=["a not 5"])
        self.right(COUNT, m=["a not 5", "a not 4"])
        self.right(COUNT, m=["a not 4"])
        self.right(COUNT, m=["a <= 4", "a <= 3"])

    def test_values_that_no_run_passes_on_the_way_to_another_mark(self):
        self.wrong(SQUARE, n=["b = 0"])
        self.wrong(SQUARE, m=["a <= b", "b not 2", "b not 3"], n=["b = 0"])
        self.right(SQUARE, m=["a <= b"])
        program = read(rows("box a 0 3 0", "mark m", "put a 0", "go m", "mark n", "if a = 2 go m"))
        self.wrong(program, m=["a = 0"])
        self.right(program, m=["a = 0"], n=["a not 2"])
        self.right(program, m=["a = 0"], n=["a = 1"])
        self.wrong(program, m=["a = 0"], n=["a >= 2"])

    def test_a_mark_to_which_no_way_leads(self):
        self.right(DEAD, m=["a <= 3"], dead=["a = 0", "a = 1"])
        self.wrong(DEAD, m=["a <= 3"])
        self.wrong(DEAD, m=["a <= 3"], dead=["a = 0"])
        self.right(DEAD, dead=["a = 0"])
        self.right(DEAD, m=["a not 4"], dead=["a = 0"])
        program = read(rows("box a 0 5 0", "mark m", "ask a", "if a < 4 go m", "stop", "mark dead"))
        for saying in sayings(program):
            self.answers(True, is_right, program, [("m", []), ("dead", [saying])])

    def test_in_any_order_and_more_than_once(self):
        for texts in itertools.permutations(["a <= 4", "a <= 3", "a not 4", "a <= 3"]):
            self.right(COUNT, m=list(texts), end=["a = 3", "a >= 3", "a = 3"])
        for texts in itertools.permutations(["a <= 4", "a <= 3", "a = 3", "a <= 3"]):
            self.wrong(COUNT, m=list(texts), end=["a = 3", "a >= 3", "a = 3"])
        self.wrong(COUNT, m=["a <= 4", "a <= 4"])

    def test_the_same_mark_again(self):
        program = read(rows("box a 0 3 1", "mark m", "put a 3-a", "go m"))
        self.right(program, m=["a in 1 2"])
        self.right(program, m=["a not 0", "a not 3"])
        self.wrong(program, m=["a not 0"])
        self.wrong(program, m=["a = 1"])
        program = read(rows("box a 0 3 1", "mark m", "go m"))
        self.right(program, m=["a = 1"])
        self.wrong(program, m=["a = 2"])

    def test_two_boxes(self):
        program = read(rows("box a 0 4 0", "box b -2 2 -2", "mark m", "ask a", "put b a-2", "mark n", "go m"))
        self.right(program, m=["a - b = 2"], n=["a - b = 2", "b < a"])
        self.wrong(program, m=["a - b = 2"])
        self.right(program, n=["a - b = 2", "b < a", "b <= a"])
        self.wrong(program, m=["a = b"])
        self.wrong(program, m=["a - b = 2", "a not 4"])

    def test_three_boxes(self):
        self.right(THREE, n=["a + b = c"])
        self.right(THREE, n=["a + b = c"], k=["a + b = c", "b <= a"])
        self.right(THREE, m=["a + b = c"], n=["a + b = c"])
        self.wrong(THREE, k=["a + b = c"])
        self.wrong(THREE, m=["a + b = c"])
        self.wrong(THREE, n=["a * b = c"])
        self.right(THREE, k=["b <= a"])

    def test_four_boxes(self):
        program = read(rows("box a 0 1 0", "box b 0 1 0", "box c 0 1 0", "box d 0 2 0", "mark m", "ask a", "ask b",
                            "put c a*b", "put d a+b", "mark n", "go m"))
        self.right(program, m=["a * b = c", "a + b = d", "c <= d"], n=["a * b = c", "a + b = d"])
        self.wrong(program, m=["a * b = c", "a + b = d"], n=[])
        self.wrong(program, m=["a + b = c"], n=["a * b = c"])

    def test_no_marks(self):
        self.answers(True, is_right, read("box a 0 9 0"), [])
        self.answers(True, is_right, read(rows("box a 0 9 0", "ask a", "put a 10")), [])
        self.answers(True, is_right, read(rows("box a 0 2 0", "box b 0 2 0", "box c 0 2 0", "stop")), [])

    def test_numbers_put_that_the_box_may_not_hold(self):
        program = read(rows("box a 0 3 0", "mark m", "put a a+2", "mark n"))
        self.right(program, n=["a >= 2"])
        self.right(program, m=["a = 0"], n=["a = 2"])
        self.wrong(program, n=["a = 2"])

    def test_numbers_asked_for(self):
        program = read(rows("box a -3 3 0", "box b 0 1 0", "mark m", "ask a", "if a = 3 go n", "go m", "mark n"))
        self.right(program, m=["a <= 2"])
        self.right(program, m=["a not 3", "b = 0"], n=["a = 3", "b = 0"])
        self.wrong(program, m=["a >= -2"])
        self.wrong(program, m=["a <= 1"])

    def test_each_saying_by_itself(self):
        for program in (COUNT, ASKED, DEAD, SQUARE):
            for mark in marks_of(program):
                for saying in sayings(program):
                    paper = [(name, [saying] if name == mark else []) for name in marks_of(program)]
                    self.answers(is_right_by_words(program, paper), is_right, program, paper)

    def test_made_programs_and_papers(self):
        chance = random.Random(21)
        told = []
        for boxes in BOXES:
            for _ in range(30):
                program = read(made_text(chance, *boxes))
                for _ in range(6):
                    paper = some_paper(chance, program)
                    told.append(is_right_by_words(program, paper))
                    with self.subTest(program=program, paper=paper):
                        self.answers(told[-1], is_right, program, paper)
        self.assertGreater(told.count(True), 100)
        self.assertGreater(told.count(False), 100)

    def test_what_a_right_paper_says_is_so_in_every_run(self):
        chance = random.Random(22)
        for boxes in BOXES:
            for _ in range(30):
                program = read(made_text(chance, *boxes))
                passed = dict(passable(program))
                for _ in range(6):
                    paper = some_paper(chance, program)
                    if is_right(program, paper):
                        for mark, some in paper:
                            for saying, values in itertools.product(some, passed[mark]):
                                self.assertIs(is_so(saying, values), True)

    def test_what_is_handed_in_may_be_changed_behind(self):
        program = copy.deepcopy(COUNT)
        paper = paper_of(program, m=["a <= 3"], end=["a = 3"])
        self.answers(True, is_right, program, paper)
        paper[0][1].clear()
        paper[0][1].append(("to", 0, 4))
        self.answers(False, is_right, program, paper)
        paper[0][1].clear()
        self.answers(True, is_right, program, paper)
        program[1][1] = ("if", "=", ("box", "a"), ("number", 2), 4)
        self.answers(False, is_right, program, paper)

    def test_many_values_and_rows(self):
        program = read(rows("box a 0 19 0", "box b 0 19 0", "mark m", *["ask a", "ask b"] * 27, "if a < b go m", "mark n"))
        self.right(program, n=["b <= a"])
        self.wrong(program, m=["a < b"])
        self.right(program, m=["a <= b"], n=["b <= a"])
        self.wrong(program, m=["a <= b"], n=["b < a"])

    def test_somewhat_beyond_the_bounds(self):
        program = ([("a", 0, 24, 0), ("b", 0, 24, 0)], [("mark", "m"), ("ask", 0), ("put", 1, ("box", "a")), ("mark", "n")])
        self.answers(True, is_right, program, [("m", [("is", 1, 0)]), ("n", [("same", 0, 1)])])
        self.answers(False, is_right, program, [("m", [("is", 1, 1)]), ("n", [("same", 0, 1)])])


class Greatest(Case):
    def has(self, program, paper, **texts):
        with self.subTest(paper=paper):
            expected = paper_of(program, **texts)
            self.answers(expected, greatest, program, paper_of(program, **paper))
            self.answers(True, is_right, program, expected)
            # A right paper is its own greatest.
            self.answers(expected, greatest, program, expected)

    def test_nothing_to_strike(self):
        self.has(COUNT, {})
        self.has(COUNT, {"m": ["a <= 3"], "end": ["a = 3"]}, m=["a <= 3"], end=["a = 3"])

    def test_what_the_start_breaks(self):
        self.has(COUNT, {"m": ["a >= 1", "a <= 3", "a = 2"]}, m=["a <= 3"])

    def test_what_comes_next_breaks(self):
        self.has(COUNT, {"m": ["a = 0", "a <= 2", "a <= 3"], "end": ["a = 3"]}, m=["a <= 3"], end=["a = 3"])
        self.has(COUNT, {"m": ["a = 0"], "end": ["a = 1"]}, m=[], end=[])

    def test_what_values_that_no_run_passes_break(self):
        self.has(COUNT, {"m": ["a <= 4"]}, m=[])
        self.has(COUNT, {"m": ["a <= 4", "a <= 3"]}, m=["a <= 4", "a <= 3"])
        self.has(SQUARE, {"m": ["a <= b"], "n": ["b = 0", "a <= 2", "b not 7"]}, m=["a <= b"])

    def test_what_is_struck_lets_more_be_struck(self):
        # Without a = 0 what is left lets 1 by, then 2, and so on.
        self.has(COUNT, {"m": ["a = 0", "a <= 1", "a in 0 1", "a <= 2", "a <= 4"]}, m=[])
        program = read(rows("box a 0 3 0", "mark m", "put a a", "mark n", "put a a", "mark k", "ask a", "go m"))
        self.has(program, {"m": ["a = 0"], "n": ["a = 0", "a <= 2"], "k": ["a = 0", "a not 3"]})
        program = read(rows("box a 0 3 0", "mark k", "mark n", "mark m", "put a 3-a", "go k"))
        self.has(program, {"k": ["a = 0"], "n": ["a = 0", "a in 0 3"], "m": ["a = 0", "a not 1"]}, n=[], m=[])
        self.has(program, {"k": ["a = 0", "a in 0 3"], "n": ["a = 0", "a in 0 3"], "m": ["a = 0", "a in 0 3", "a not 1"]},
                 k=["a in 0 3"], n=["a in 0 3"], m=["a in 0 3", "a not 1"])

    def test_told_more_than_once_in_any_order(self):
        self.has(COUNT, {"m": ["a <= 3", "a = 0", "a <= 3", "a not 5", "a <= 3", "a = 0"], "end": ["a >= 3", "a = 3", "a >= 3"]},
                 m=["a <= 3", "a <= 3", "a not 5", "a <= 3"], end=["a >= 3", "a = 3", "a >= 3"])
        self.has(COUNT, {"m": ["a not 5", "a <= 3", "a not 5"]}, m=["a not 5", "a <= 3", "a not 5"])
        self.has(COUNT, {"m": ["a not 5", "a <= 4", "a not 5"]}, m=[])

    def test_a_mark_to_which_no_way_leads(self):
        self.has(DEAD, {"m": ["a <= 3", "a not 4"], "dead": []}, m=["a not 4"])
        self.has(DEAD, {"m": ["a <= 3", "a not 4"], "dead": ["a = 0", "a = 1", "a = 0"]},
                 m=["a <= 3", "a not 4"], dead=["a = 0", "a = 1", "a = 0"])

    def test_no_marks(self):
        self.answers([], greatest, read("box a 0 9 0"), [])
        self.answers([], greatest, read(rows("box a 0 9 0", "ask a")), [])

    def test_all_sayings(self):
        for program in (COUNT, ASKED, DEAD, SQUARE, THREE):
            paper = [(mark, sayings(program)) for mark in marks_of(program)]
            self.answers(struck(program, paper), greatest, program, paper)

    def test_all_that_is_so_in_every_run(self):
        for program in (COUNT, ASKED, SQUARE, THREE):
            paper = [(mark, [saying for saying in sayings(program) if all(is_so(saying, each) for each in values)])
                     for mark, values in passable(program)]
            expected = struck(program, paper)
            self.answers(expected, greatest, program, paper)
            self.assertEqual(expected != paper, program == SQUARE)

    def test_made_programs_and_papers(self):
        chance = random.Random(23)
        for boxes in BOXES:
            for _ in range(30):
                program = read(made_text(chance, *boxes))
                for _ in range(4):
                    paper = some_paper(chance, program)
                    with self.subTest(program=program, paper=paper):
                        self.answers(struck(program, paper), greatest, program, paper)

    def test_apart_from_the_package(self):
        chance = random.Random(24)
        for boxes in BOXES:
            for _ in range(15):
                text = made_text(chance, *boxes)
                program = read(text)
                plain = Plain(text, {saying: shown_saying(program, saying) for saying in sayings(program)})
                for paper in [some_paper(chance, program), [(mark, sayings(program)) for mark in marks_of(program)]]:
                    with self.subTest(text=text, paper=paper):
                        self.answers(plain.greatest(paper), greatest, program, paper)
                        self.answers(plain.is_right(paper), is_right, program, paper)

    def test_no_greater_part_is_right(self):
        # Of all parts of a small paper that are right, each lies within the told one.
        chance = random.Random(25)
        for _ in range(12):
            program = read(made_text(chance, "box a -1 1 0", "box b 0 1 1"))
            paper = [(mark, some[:2]) for mark, some in some_paper(chance, program)]
            told = greatest(program, paper)
            places = [(mark, place) for mark, some in paper for place in range(len(some))]
            for taken in itertools.product((True, False), repeat=len(places)):
                left = [(mark, [some[place] for place in range(len(some)) if taken[places.index((mark, place))]])
                        for mark, some in paper]
                if is_right(program, left):
                    for (_, part), (_, whole) in zip(left, told):
                        self.assertLessEqual(set(part), set(whole))

    def test_the_told_lists_are_the_askers_own(self):
        self.own(greatest, COUNT, paper_of(COUNT))
        self.own(greatest, COUNT, paper_of(COUNT, m=["a <= 3"], end=["a = 3"]))
        self.own(greatest, COUNT, paper_of(COUNT, m=["a <= 2"], end=["a = 2"]))
        self.own(greatest, read("box a 0 9 0"), [])
        some = [("to", 0, 3)]
        # One list for two marks: each mark is told a list of its own.
        self.own(greatest, COUNT, [("m", some), ("end", some)])

    def test_what_is_handed_in_may_be_changed_behind(self):
        paper = paper_of(COUNT, m=["a <= 3"], end=["a = 3"])
        told = greatest(COUNT, paper)
        paper[0][1].clear()
        paper.pop()
        self.just(told, paper_of(COUNT, m=["a <= 3"], end=["a = 3"]))

    def test_many_values_and_rows(self):
        program = read(rows("box a 0 19 0", "box b 0 19 0", "mark m", "ask a", "ask b", "if a < b go m", "mark n",
                            "put b a", "mark k"))
        paper = [(mark, sayings(program)) for mark in marks_of(program)]
        told = greatest(program, paper)
        self.just(told, [("m", [("to", 0, 18), ("never", 0, 19), ("most", 0, 1)]), ("n", [("most", 1, 0)]),
                         ("k", [("same", 0, 1), ("most", 0, 1), ("most", 1, 0)])])


if __name__ == "__main__":
    unittest.main()
