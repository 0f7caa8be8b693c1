import copy
import random
import unittest

from plain import Plain
from support import Case, lists_in, made_text, rows
from sayswho.errors import NoMark
from sayswho.forms import is_so, read_saying, sayings, shown_saying
from sayswho.keeper import Keeper
from sayswho.machine import run
from sayswho.reader import marks_of, read
from sayswho.seen import held

FAR = 10 ** 30 - 1

ASKED = read(rows("box a -3 5 0", "mark top", "ask a", "mark down", "if a < 2 go top", "mark done", "stop",
                  "mark never"))
SMALL = read(rows("box a 0 2 0", "ask a", "mark m", "if a < 1 go k", "ask a", "mark n", "mark k"))
TWO = read(rows("box a 0 4 0", "box b -2 2 0", "mark m", "ask a", "put b a-2", "mark n", "if a < 4 go m", "mark k"))
# By the number asked for it ends in each way: 0 at the end, 1 far, 2 round, 3 out, 4 by a stop.
ENDS = read(rows("box a 0 4 4", "ask a", "mark m", "if a = 1 go far", "if a = 2 go round", "if a = 3 go out",
                 "if a = 4 go halt", "go over", "mark far", "put a 9", "mark round", "go round", "mark out", "ask a",
                 "mark halt", "stop", "mark over"))
BOXES = (("box a -2 3 1",), ("box a -1 1 0", "box b 0 1 1"), ("box a 0 1 0", "box b -1 1 0", "box c 0 2 1"))


def kept(program, *runs):
    keeper = Keeper(program)
    for numbers in runs:
        keeper.run(list(numbers))
    return keeper


def fallen(program, runs, numbers):
    # Counted at each mark by itself, of those that were passed ahead.
    count = 0
    for mark in marks_of(program):
        ahead = held(program, runs, mark)
        if ahead is not None:
            count += len(set(ahead) - set(held(program, runs + [numbers], mark)))
    return count


def first_to_break(program, runs, mark, saying):
    for place, numbers in enumerate(runs):
        if any(name == mark and not is_so(saying, values) for name, values in run(program, numbers)[0]):
            return place + 1
    return None


class Fallen(Case):
    def test_the_first_run(self):
        for numbers in ([], [3], [1, 1, 2], [FAR]):
            keeper = Keeper(ASKED)
            self.answers(0, keeper.run, numbers)

    def test_by_hand(self):
        program = read(rows("box a 0 2 0", "ask a", "mark m"))
        keeper = Keeper(program)
        self.answers(0, keeper.run, [0])
        # a = 0, a <= 0, a rest 2 = 0 to a rest 6 = 0, a in 0 2, a not 1 fall.
        self.answers(9, keeper.run, [1])
        self.answers(0, keeper.run, [0])
        self.answers(0, keeper.run, [1])
        self.answers(0, keeper.run, [])
        self.answers(0, keeper.run, [3])
        # a <= 1, a in 0 1, a not 2 fall.
        self.answers(3, keeper.run, [2])
        self.answers([], keeper.held, "m")
        self.answers(0, keeper.run, [2, 2])

    def test_a_mark_passed_first_by_this_run_counts_none(self):
        keeper = Keeper(SMALL)
        self.answers(0, keeper.run, [0])
        # At m and at k nine each, as above; n is passed first.
        self.answers(9 + 9, keeper.run, [1, 1])
        self.answers(0, keeper.run, [1, 1])
        keeper = Keeper(read(rows("box a 0 2 0", "mark m", "ask a", "mark n", "go m")))
        self.answers(0, keeper.run, [])
        # n is passed three times by its first run, with unlike values: none of its own count.
        self.answers(len(held(keeper.program, [[]], "m")), keeper.run, [0, 1, 2])
        self.answers([], keeper.held, "m")
        self.answers([], keeper.held, "n")

    def test_at_each_mark_by_itself(self):
        program = read(rows("box a 0 2 0", "ask a", "mark m", "mark n", "mark k"))
        keeper = Keeper(program)
        self.answers(0, keeper.run, [0])
        self.answers(27, keeper.run, [1])
        self.answers(9, keeper.run, [2])

    def test_a_run_that_passes_no_mark_with_new_values(self):
        keeper = kept(ASKED, [1, 3], [-1, 2])
        for numbers in ([1, 3], [], [1], [FAR, 1], [1, -FAR]):
            self.answers(0, keeper.run, numbers)

    def test_each_run_of_many(self):
        chance = random.Random(41)
        for program in (ASKED, SMALL, TWO, ENDS):
            for _ in range(12):
                keeper = Keeper(program)
                runs = []
                for _ in range(7):
                    numbers = [chance.randrange(-3, 6) for _ in range(chance.randrange(4))]
                    self.answers(fallen(program, runs, numbers), keeper.run, numbers)
                    runs.append(numbers)


class Held(Case):
    def test_as_of_runs(self):
        for program in (ASKED, SMALL, TWO, ENDS):
            for runs in ([], [[]], [[3]], [[1, 4], [-1, 2]], [[0], [1], [2], [3], [4], [5]], [[2, 2], [2, 2]]):
                keeper = kept(program, *runs)
                for mark in marks_of(program):
                    self.answers(held(program, runs, mark), keeper.held, mark)

    def test_behind_each_run(self):
        keeper = Keeper(TWO)
        runs = []
        for numbers in ([], [3], [3, 1], [FAR], [0, 0, 4]):
            self.answers(fallen(TWO, runs, numbers), keeper.run, numbers)
            runs.append(numbers)
            for mark in marks_of(TWO):
                self.answers(held(TWO, runs, mark), keeper.held, mark)

    def test_none_where_nothing_was_seen(self):
        keeper = Keeper(ASKED)
        for mark in marks_of(ASKED):
            self.answers(None, keeper.held, mark)
        keeper = kept(ASKED, [1])
        self.answers(None, keeper.held, "done")
        self.answers(None, keeper.held, "never")

    def test_no_mark(self):
        for keeper in (Keeper(ASKED), kept(ASKED, [1, 3])):
            for mark in ("nope", "a", "", "TOP", "top ", "box", "Never", "ask a"):
                self.refused(NoMark, keeper.held, mark)
        self.refused(NoMark, Keeper(read("box a 0 9 0")).held, "a")

    def test_each_end(self):
        for runs in ([[0]], [[1]], [[2]], [[3]], [[4]], [[5]], [[]], [[3, 1], [4]]):
            keeper = kept(ENDS, *runs)
            for mark in marks_of(ENDS):
                self.answers(held(ENDS, runs, mark), keeper.held, mark)


class Fell(Case):
    def fell(self, keeper, mark, text, expected):
        with self.subTest(mark=mark, text=text):
            self.answers(expected, keeper.fell, mark, read_saying(keeper.program, text))

    def test_counted_from_one(self):
        keeper = kept(SMALL, [0], [1, 1], [2])
        self.fell(keeper, "m", "a = 1", 1)
        self.fell(keeper, "m", "a = 0", 2)
        self.fell(keeper, "m", "a <= 1", 3)
        self.fell(keeper, "m", "a in 0 1", 3)
        self.fell(keeper, "m", "a rest 2 = 0", 2)

    def test_none_where_there_is_none(self):
        keeper = kept(SMALL, [0], [1, 1])
        self.fell(keeper, "m", "a <= 1", None)
        self.fell(keeper, "n", "a = 1", None)
        self.fell(keeper, "n", "a = 0", 2)
        keeper = Keeper(SMALL)
        for saying in sayings(SMALL):
            self.answers(None, keeper.fell, "m", saying)

    def test_of_a_mark_that_was_not_passed(self):
        keeper = kept(SMALL, [0], [1])
        self.fell(keeper, "n", "a = 2", None)
        keeper.run([1, 1])
        self.fell(keeper, "n", "a = 2", 3)
        self.fell(keeper, "n", "a = 1", None)

    def test_runs_count_that_pass_nothing_new(self):
        keeper = kept(SMALL, [], [FAR], [0], [0], [2])
        self.fell(keeper, "m", "a = 1", 3)
        self.fell(keeper, "m", "a = 0", 5)
        self.fell(keeper, "m", "a = 2", 3)

    def test_the_first_run_stays(self):
        keeper = kept(SMALL, [1])
        self.fell(keeper, "m", "a = 0", 1)
        keeper.run([2])
        keeper.run([0])
        self.fell(keeper, "m", "a = 0", 1)
        self.fell(keeper, "m", "a = 1", 2)
        self.fell(keeper, "m", "a >= 1", 3)

    def test_within_one_run(self):
        keeper = kept(ASKED, [1, -3, 0], [4])
        self.fell(keeper, "top", "a = 0", 1)
        self.fell(keeper, "down", "a = 1", 1)
        self.fell(keeper, "down", "a <= 1", 2)
        self.fell(keeper, "down", "a >= -2", 1)

    def test_no_mark(self):
        for keeper in (Keeper(ASKED), kept(ASKED, [1, 3])):
            for mark in ("nope", "a", "", "TOP"):
                self.refused(NoMark, keeper.fell, mark, ("is", 0, 1))

    def test_each_saying(self):
        chance = random.Random(42)
        for program in (ASKED, SMALL, TWO, ENDS):
            for _ in range(3):
                runs = [[chance.randrange(-3, 6) for _ in range(chance.randrange(4))] for _ in range(6)]
                keeper = kept(program, *runs)
                for mark in marks_of(program):
                    for saying in sayings(program):
                        self.just(keeper.fell(mark, saying), first_to_break(program, runs, mark, saying))

    def test_what_did_not_fall_holds(self):
        keeper = kept(TWO, [3], [0, 4], [1])
        for mark in marks_of(TWO):
            self.just([saying for saying in sayings(TWO) if keeper.fell(mark, saying) is None], keeper.held(mark))


class Runs(Case):
    def test_the_list_of_its_inputs(self):
        keeper = Keeper(ASKED)
        self.answers([], keeper.runs)
        expected = []
        for numbers in ([1, 3], [], [FAR, -FAR], [1, 3], [0, 0, 0, 5, 5, 5]):
            keeper.run(numbers)
            expected.append(list(numbers))
            self.answers(expected, keeper.runs)

    def test_the_told_lists_are_the_askers_own(self):
        keeper = kept(ASKED, [1, 3], [])
        self.own(keeper.runs)
        self.own(Keeper(ASKED).runs)


class Apart(Case):
    def test_the_programs_lists_changed_behind(self):
        program = copy.deepcopy(TWO)
        keeper = Keeper(program)
        keeper.run([3])
        program[0][0] = ("a", 0, 1, 0)
        program[0].pop()
        program[1].clear()
        expected = kept(TWO, [3])
        for numbers in ([1, 2, 4], [], [4]):
            self.just(keeper.run(numbers), expected.run(numbers))
        for mark in marks_of(TWO):
            self.just(keeper.held(mark), expected.held(mark))
            for saying in sayings(TWO):
                self.just(keeper.fell(mark, saying), expected.fell(mark, saying))

    def test_the_program_stays(self):
        program = copy.deepcopy(TWO)
        keeper = self.asked(Keeper, program)
        keeper.run([3])
        keeper.held("m")
        keeper.fell("m", ("is", 0, 1))
        self.just(program, TWO)

    def test_inputs_changed_behind(self):
        keeper = Keeper(SMALL)
        numbers = [0]
        keeper.run(numbers)
        numbers.append(1)
        numbers[0] = 2
        self.answers([[0]], keeper.runs)
        keeper.run(numbers)
        numbers.clear()
        self.answers([[0], [2, 1]], keeper.runs)
        self.answers(held(SMALL, [[0], [2, 1]], "m"), keeper.held, "m")
        keeper.run(numbers)
        keeper.run(numbers)
        numbers.append(1)
        self.answers([[0], [2, 1], [], []], keeper.runs)

    def test_told_lists_changed_behind(self):
        keeper = kept(SMALL, [0], [1, 1])
        for mark in marks_of(SMALL):
            self.own(keeper.held, mark)
        told = keeper.held("m")
        told.clear()
        for each in lists_in(keeper.runs()):
            each.append(9)
        self.answers(fallen(SMALL, [[0], [1, 1]], [2, 2]), keeper.run, [2, 2])
        self.answers([[0], [1, 1], [2, 2]], keeper.runs)
        self.answers(held(SMALL, [[0], [1, 1], [2, 2]], "m"), keeper.held, "m")

    def test_two_keepers_beside_each_other(self):
        first = Keeper(SMALL)
        second = Keeper(SMALL)
        first.run([0])
        self.answers(None, second.held, "m")
        self.answers([], second.runs)
        second.run([1])
        second.run([2])
        self.answers([[0]], first.runs)
        self.answers(held(SMALL, [[0]], "m"), first.held, "m")
        self.answers(None, first.fell, "m", ("is", 0, 0))
        self.answers(1, second.fell, "m", ("is", 0, 0))
        self.answers(2, second.fell, "m", ("is", 0, 1))
        other = kept(TWO, [3])
        self.answers(held(TWO, [[3]], "n"), other.held, "n")
        self.answers(held(SMALL, [[1], [2]], "m"), second.held, "m")

    def test_no_marks(self):
        keeper = Keeper(read(rows("box a 0 9 0", "ask a")))
        self.answers(0, keeper.run, [3])
        self.answers([[3]], keeper.runs)
        self.refused(NoMark, keeper.fell, "a", ("is", 0, 3))

    def test_many_runs(self):
        program = read(rows("box a 0 19 0", "box b 0 19 0", "mark m", "ask a", "ask b", "go m"))
        keeper = Keeper(program)
        left = held(program, [[]], "m")
        self.answers(0, keeper.run, [])
        for a in range(20):
            count = keeper.run([n for b in range(20) for n in (a, b)])
            now = keeper.held("m")
            self.assertEqual(count, len(left) - len(now))
            left = now
        self.just(left, [])

    def test_apart_from_the_package(self):
        chance = random.Random(43)
        for boxes in BOXES:
            for _ in range(12):
                text = made_text(chance, *boxes)
                program = read(text)
                plain = Plain(text, {saying: shown_saying(program, saying) for saying in sayings(program)})
                keeper = Keeper(program)
                runs = []
                for _ in range(5):
                    ahead = plain.held(runs)
                    runs.append([chance.randrange(-2, 4) for _ in range(chance.randrange(5))])
                    now = plain.held(runs)
                    count = sum(len(ahead[mark]) - len(now[mark]) for mark in plain.marks if ahead[mark] is not None)
                    with self.subTest(text=text, runs=runs):
                        self.answers(count, keeper.run, runs[-1])
                        for mark in plain.marks:
                            self.answers(now[mark], keeper.held, mark)


if __name__ == "__main__":
    unittest.main()
