"""The promise over the whole (point 3), held against plain walks apart from the package; and the interface."""

import importlib
import inspect
import itertools
import random
import unittest

from plain import Plain
from support import Case, lists_in, made_text, rows
from sayswho.desk import Desk
from sayswho.follows import follows, thinned
from sayswho.forms import sayings, shown_saying
from sayswho.judge import judged, settled
from sayswho.keeper import Keeper
from sayswho.papers import greatest, is_right
from sayswho.reader import marks_of, read
from sayswho.seen import held, seen
from sayswho.ways import first_of, next_of, passable, shortest

TEXTS = (
    # A clock that goes round; a count down from an asked number; two numbers added by ones.
    rows("box h 0 11 0", "mark tick", "put h h+1", "if h < 11 go tick", "mark last", "put h 0", "go tick"),
    rows("box a 0 9 0", "box n 0 9 0", "ask n", "mark top", "if a = n go done", "put a a+1", "go top", "mark done"),
    rows("box a 0 3 0", "box b 0 3 0", "box c 0 6 0", "ask a", "ask b", "put c a", "mark top", "if b < 1 go done",
         "put b b-1", "put c c+1", "go top", "mark done"),
    # A bill and a purse; a square that no saying tells; a door that only a low number shuts.
    rows("box sum -5 5 0", "box coin -2 2 0", "mark next", "ask coin", "if coin = 0 go paid", "put sum sum+coin", "go next",
         "mark paid", "if sum < 0 go owed", "stop", "mark owed"),
    rows("box a 0 3 0", "box b 0 9 0", "ask a", "put b a*a", "mark m", "put b b-a*a", "mark n"),
    rows("box door 0 1 1", "box x -3 3 0", "mark wait", "ask x", "if x < 0-2 go shut", "if door = 1 go wait", "mark bad",
         "stop", "mark shut", "put door 0", "ask x", "if x = 0 go wait", "mark out"),
    # Four boxes; products; a mark that no run passes, and from which a way would lead.
    rows("box a 0 1 0", "box b 0 1 0", "box c 0 1 0", "box d 0 2 0", "mark m", "ask a", "ask b", "put c a*b", "put d a+b",
         "mark n", "if c = 1 go m", "mark k"),
    rows("box a 0 5 0", "mark m", "ask a", "if a < 4 go m", "stop", "mark dead", "put a 5", "go m"),
    # No marks; no statements; marks without an ask.
    rows("box a 0 9 0", "ask a", "put a a+1"),
    "box a 0 9 0",
    rows("box a -9 9 1", "box b -9 9 0", "mark m", "put b a+b", "put a b-a", "go m"),
)
BOXES = (("box a -2 3 1",), ("box a -1 1 0", "box b 0 1 1"), ("box a 0 1 0", "box b -1 1 0", "box c 0 2 1"),
         ("box a 0 1 0", "box b 0 1 1", "box c -1 1 0", "box d 2 3 2"))


def plain_of(text):
    program = read(text)
    return Plain(text, {saying: shown_saying(program, saying) for saying in sayings(program)})


def all_texts():
    chance = random.Random(61)
    return TEXTS + tuple(made_text(chance, *boxes) for boxes in BOXES for _ in range(12))


def some_runs(chance):
    return [[chance.randrange(-3, 5) for _ in range(chance.randrange(6))] for _ in range(chance.randrange(4))]


class Whole(Case):
    @classmethod
    def setUpClass(cls):
        chance = random.Random(62)
        cls.told = [(text, read(text), plain_of(text), [[], [[]], some_runs(chance), some_runs(chance)])
                    for text in all_texts()]

    def each(self):
        for text, program, plain, some in self.told:
            for runs in some:
                with self.subTest(text=text, runs=runs):
                    yield program, plain, runs

    def test_what_is_told_is_what_was_so_whenever_a_mark_was_passed(self):
        for program, plain, runs in self.each():
            expected = plain.held(runs)
            for mark in marks_of(program):
                self.answers(expected[mark], held, program, runs, mark)

    def test_what_can_come(self):
        for text, program, plain, _ in self.told:
            self.answers(sorted(plain.first), first_of, program)
            self.answers([(mark, sorted(values for name, values in plain.ways if name == mark)) for mark in plain.marks],
                         passable, program)
            for (mark, values), come in list(plain.next.items())[::11]:
                self.answers(sorted(come), next_of, program, mark, values)
                self.answers(plain.ways.get((mark, values)), shortest, program, mark, values)

    def test_what_is_left_out_follows_and_nothing_left_does(self):
        for program, plain, runs in self.each():
            for mark, some in plain.held(runs).items():
                if some is not None:
                    left = self.asked(thinned, program, some)
                    self.assertLessEqual(set(left), set(some))
                    self.assertEqual(plain.let_by(left), plain.let_by(some))
                    for saying in left:
                        rest = [other for other in left if other != saying]
                        self.assertFalse(plain.let_by(rest) <= plain.so[saying])
                        self.assertIs(follows(program, saying, rest), False)

    def test_what_is_shown_is_so_in_every_run(self):
        for program, plain, runs in self.each():
            for mark, saying, verdict in judged(program, runs):
                if verdict == "shown":
                    self.assertTrue(all(values in plain.so[saying] for name, values in plain.ways if name == mark))

    def test_the_told_paper_is_enough_and_no_larger_one_is_right(self):
        for program, plain, runs in self.each():
            found = plain.held(runs)
            paper = [(mark, sayings(program) if found[mark] is None else found[mark]) for mark in plain.marks]
            told = self.asked(greatest, program, paper)
            self.assertIs(plain.is_right(told), True)
            self.answers(True, is_right, program, told)
            self.just(told, plain.greatest(paper))
            shown = [(mark, saying) for mark, saying, verdict in judged(program, runs) if verdict == "shown"]
            self.just(shown, [(mark, saying) for mark, some in told for saying in some if found[mark] is not None])

    def test_what_is_broken_is_not_so_in_the_made_run_and_in_none_by_fewer_numbers(self):
        for program, plain, runs in self.each():
            for mark, saying, verdict in judged(program, runs):
                breaking = plain.breaking(mark, saying)
                if isinstance(verdict, tuple):
                    self.just(verdict, ("broken", breaking))
                    passed = plain.passed(verdict[1])
                    self.assertTrue([values for name, values in passed if name == mark and values not in plain.so[saying]])
                else:
                    self.assertIsNone(breaking)

    def test_when_nothing_more_is_broken(self):
        for program, plain, runs in self.each():
            told = self.asked(settled, program, runs)
            for mark in plain.marks:
                self.just(held(program, told, mark), plain.so_in_every_run(mark))
            verdicts = judged(program, told)
            self.assertEqual([verdict for _, _, verdict in verdicts if isinstance(verdict, tuple)], [])
            self.just([(mark, saying) for mark, saying, _ in verdicts],
                      [(mark, saying) for mark in plain.marks for saying in plain.so_in_every_run(mark) or []])

    def test_in_whatever_order_the_runs_came(self):
        for text, program, plain, some in self.told:
            runs = [numbers for each in some for numbers in each][:3]
            for order in itertools.permutations(runs):
                told = settled(program, list(order))
                with self.subTest(text=text, order=order):
                    for mark in plain.marks:
                        self.just(held(program, told, mark), plain.so_in_every_run(mark))

    def test_a_keeper_and_a_desk_tell_the_same(self):
        for program, plain, runs in self.each():
            keeper = Keeper(program)
            desk = Desk()
            text = next(each[0] for each in self.told if each[1] is program)
            for line in text.split("\n"):
                desk.say("row " + line)
            self.assertEqual(desk.say("read"), f"marks {len(plain.marks)}")
            for numbers in runs:
                fallen = keeper.run(numbers)
                self.assertEqual(desk.say(" ".join(["run"] + [str(n) for n in numbers])).split(" ")[-1], str(fallen))
            told = settled(program, runs)
            hold = [plain.so_in_every_run(mark) or [] for mark in plain.marks]
            self.assertEqual(desk.say("settle"), f"{len(told) - len(runs)} {sum(len(some) for some in hold)}")
            for numbers in told[len(runs):]:
                keeper.run(numbers)
            for mark in plain.marks:
                self.just(keeper.held(mark), plain.so_in_every_run(mark))
                expected = "unseen"
                if plain.so_in_every_run(mark) is not None:
                    left = thinned(program, plain.so_in_every_run(mark))
                    expected = "; ".join([shown_saying(program, saying) for saying in left]) or "none"
                self.assertEqual(desk.say("held " + mark), expected)

    def test_the_same_asked_of_the_same_is_answered_the_same(self):
        for program, _, runs in self.each():
            for function in (seen, judged, settled):
                self.own(function, program, runs)


# Of each module its functions, with how many arguments, and its classes' methods.
INTERFACE = {
    "words": {"is_name": 1, "number_of": 1, "expression": 1, "worth": 2},
    "reader": {"read": 1, "marks_of": 1},
    "machine": {"step": 3, "run": 2},
    "forms": {"sayings": 1, "is_so": 2, "shown_saying": 2, "read_saying": 2},
    "seen": {"seen": 2, "held": 3},
    "follows": {"follows": 3, "thinned": 2, "reason": 3},
    "ways": {"next_of": 3, "first_of": 1, "passable": 1, "shortest": 3},
    "papers": {"is_right": 2, "greatest": 2},
    "judge": {"judged": 2, "settled": 2},
    "keeper": {"Keeper": 1, "Keeper.run": 2, "Keeper.held": 2, "Keeper.fell": 3, "Keeper.runs": 1},
    "desk": {"Desk": 0, "Desk.say": 2},
}


class Interface(Case):
    def test_names_and_arguments(self):
        for name, told in INTERFACE.items():
            for path, count in told.items():
                found = importlib.import_module("sayswho." + name)
                for part in path.split("."):
                    found = getattr(found, part)
                parameters = inspect.signature(found).parameters.values()
                with self.subTest(name=name, path=path):
                    self.assertEqual(len(parameters), count)
                    self.assertEqual([each for each in parameters if each.default is not each.empty], [])

    def test_each_is_defined_in_its_module(self):
        for name, told in INTERFACE.items():
            found = importlib.import_module("sayswho." + name)
            for path in told:
                self.assertEqual(getattr(found, path.split(".")[0]).__module__, "sayswho." + name)

    def test_no_told_list_is_told_again(self):
        program = read(TEXTS[3])
        keeper = Keeper(program)
        keeper.run([1, 0])
        told = [sayings(program), marks_of(program), seen(program, [[1, 0]]), held(program, [[1, 0]], "next"),
                judged(program, [[1, 0]]), settled(program, [[1, 0]]), passable(program), first_of(program),
                keeper.runs(), keeper.held("next"), keeper.runs(), keeper.held("next"), settled(program, [[1, 0]])]
        lists = lists_in(told)
        self.assertEqual(len({id(each) for each in lists}), len(lists))


if __name__ == "__main__":
    unittest.main()
