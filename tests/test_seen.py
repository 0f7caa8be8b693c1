import copy
import itertools
import unittest

from support import Case, rows
from sayswho.forms import is_so, sayings
from sayswho.machine import run
from sayswho.reader import marks_of, read
from sayswho.seen import held, seen

ASKED = read(rows("box a -3 5 0", "mark top", "ask a", "mark down", "if a < 2 go top", "mark done", "stop",
                  "mark never"))
TWO = read(rows("box a 0 4 0", "box b -2 2 0", "mark m", "ask a", "put b a-2", "mark n", "if a < 4 go m", "mark k"))
# By the number asked for it ends in each way: 0 at the end, 1 far, 2 round, 3 out, 4 by a stop.
ENDS = read(rows("box a 0 4 4", "ask a", "mark m", "if a = 1 go far", "if a = 2 go round", "if a = 3 go out",
                 "if a = 4 go halt", "go over", "mark far", "put a 9", "mark round", "go round", "mark out", "ask a",
                 "mark halt", "stop", "mark over"))


class Seen(Case):
    def test_marks_in_their_order(self):
        self.answers([("top", [(0,)]), ("down", [(4,)]), ("done", [(4,)]), ("never", [])], seen, ASKED, [[4]])

    def test_marks_are_not_sorted_by_name_or_by_when_they_were_passed(self):
        program = read(rows("box a 0 9 0", "go b", "mark c", "stop", "mark b", "mark a", "go c", "mark zero"))
        self.answers([("c", [(0,)]), ("b", [(0,)]), ("a", [(0,)]), ("zero", [])], seen, program, [[]])

    def test_unlike_values_in_the_order_in_which_they_were_first_seen(self):
        self.answers([("top", [(0,), (1,), (-3,)]), ("down", [(1,), (-3,), (5,)]), ("done", [(5,)]), ("never", [])],
                     seen, ASKED, [[1, -3, 1, 1, 5]])

    def test_run_by_run(self):
        self.answers([("top", [(0,), (1,), (-1,)]), ("down", [(1,), (4,), (-1,), (2,)]), ("done", [(4,), (2,)]),
                      ("never", [])],
                     seen, ASKED, [[1, 4], [-1, 4], [2], [1, 2], [4]])
        self.answers([("top", [(0,), (-1,), (1,)]), ("down", [(4,), (2,), (-1,), (1,)]), ("done", [(4,), (2,)]),
                      ("never", [])],
                     seen, ASKED, [[4], [2], [-1, 4], [1, 2]])

    def test_the_same_run_again(self):
        self.answers(seen(ASKED, [[1, 4]]), seen, ASKED, [[1, 4], [1, 4], [1, 4]])

    def test_no_runs(self):
        self.answers([("top", []), ("down", []), ("done", []), ("never", [])], seen, ASKED, [])

    def test_no_marks(self):
        self.answers([], seen, read(rows("box a 0 9 0", "ask a")), [[1], [2]])
        self.answers([], seen, read("box a 0 9 0"), [[]])
        self.answers([], seen, read("box a 0 9 0"), [])

    def test_an_input_without_numbers(self):
        self.answers([("top", [(0,)]), ("down", []), ("done", []), ("never", [])], seen, ASKED, [[]])

    def test_each_end(self):
        self.just([run(ENDS, numbers)[1] for numbers in ([0], [1], [2], [3], [4], [5], [])],
                  [("end",), ("far", 8), ("round",), ("out",), ("end",), ("far", 0), ("out",)])
        for numbers, marks in (([0], ["m", "over"]), ([1], ["m", "far"]), ([2], ["m", "round"]), ([3], ["m", "out"]),
                               ([4], ["m", "halt"]), ([5], []), ([], [])):
            with self.subTest(numbers=numbers):
                self.answers([(mark, [(numbers[0],)] if mark in marks else []) for mark in marks_of(ENDS)],
                             seen, ENDS, [numbers])
        self.answers([("m", [(2,), (1,), (3,), (4,), (0,)]), ("far", [(1,)]), ("round", [(2,)]), ("out", [(3,)]),
                      ("halt", [(0,), (4,)]), ("over", [(0,)])],
                     seen, ENDS, [[2], [1], [3, 0], [5], [4], [], [0, 7]])

    def test_several_boxes(self):
        self.answers([("m", [(0, 0), (3, 1), (0, -2)]), ("n", [(3, 1), (0, -2), (4, 2)]), ("k", [(4, 2)])],
                     seen, TWO, [[3], [0, 4], [3, 4]])

    def test_marks_that_bear_a_boxs_name(self):
        program = read(rows("box a 0 9 0", "mark a", "ask a", "go a"))
        self.answers([("a", [(0,), (7,), (3,)])], seen, program, [[7, 0, 3]])

    def test_long_runs(self):
        program = read(rows("box a 0 19 0", "box b 0 19 0", "mark m", "ask a", "ask b", "go m"))
        every = list(itertools.product(range(20), repeat=2))
        numbers = [n for values in every[::-1] for n in values]
        self.answers([("m", [(0, 0)] + every[:0:-1])], seen, program, [numbers, numbers[::-1]])

    def test_the_told_lists_are_the_askers_own(self):
        for runs in ([], [[]], [[1, 4], [2]]):
            self.own(seen, ASKED, runs)
        self.own(seen, TWO, [[0, 0, 4], [4]])
        self.own(seen, read("box a 0 9 0"), [])

    def test_what_is_handed_in_may_be_changed_behind(self):
        program = copy.deepcopy(ASKED)
        runs = [[1, 4], [2]]
        told = seen(program, runs)
        written = repr(told)
        runs[0].append(3)
        runs.append([5])
        program[0][0] = ("a", 0, 1, 0)
        self.assertEqual(repr(told), written)
        self.answers([("top", [(0,), (1,)]), ("down", [(1,)]), ("done", []), ("never", [])], seen, program, runs)

    def test_one_list_for_several_runs(self):
        numbers = [1, 4]
        self.answers(seen(ASKED, [[1, 4]]), seen, ASKED, [numbers, numbers])


class Held(Case):
    def holds(self, program, runs):
        # What held by its very words: of all sayings those that are so of everything that was passed.
        for mark in marks_of(program):
            passed = [values for numbers in runs for name, values in run(program, numbers)[0] if name == mark]
            expected = [s for s in sayings(program) if all(is_so(s, values) for values in passed)]
            with self.subTest(mark=mark, runs=runs):
                self.answers(expected if passed else None, held, program, runs, mark)

    def test_what_was_seen_once(self):
        self.answers([("is", 0, 4), ("from", 0, -2), ("from", 0, -1), ("from", 0, 0), ("from", 0, 1), ("from", 0, 2),
                      ("from", 0, 3), ("from", 0, 4), ("to", 0, 4), ("rest", 0, 2, 0), ("rest", 0, 3, 1),
                      ("rest", 0, 4, 0), ("rest", 0, 5, 4), ("rest", 0, 6, 4), ("either", 0, -3, 4),
                      ("either", 0, -2, 4), ("either", 0, -1, 4), ("either", 0, 0, 4), ("either", 0, 1, 4),
                      ("either", 0, 2, 4), ("either", 0, 3, 4), ("either", 0, 4, 5), ("never", 0, -3), ("never", 0, -2),
                      ("never", 0, -1), ("never", 0, 0), ("never", 0, 1), ("never", 0, 2), ("never", 0, 3),
                      ("never", 0, 5)],
                     held, ASKED, [[4]], "done")

    def test_what_was_seen_several_times(self):
        self.answers([("from", 0, -2), ("from", 0, -1), ("from", 0, 0), ("from", 0, 1), ("from", 0, 2),
                      ("rest", 0, 3, 2), ("either", 0, 2, 5), ("never", 0, -3), ("never", 0, -2), ("never", 0, -1),
                      ("never", 0, 0), ("never", 0, 1), ("never", 0, 3), ("never", 0, 4)],
                     held, ASKED, [[2], [5]], "done")

    def test_each_number_seen_leaves_nothing(self):
        self.answers([], held, ASKED, [[-3, -2, -1, 0, 1, 2], [3], [4], [5]], "down")

    def test_marks_never_passed(self):
        self.answers(None, held, ASKED, [[4]], "never")
        self.answers(None, held, ASKED, [[]], "down")
        self.answers(None, held, ASKED, [[0, 0, 0]], "done")
        for mark in marks_of(ASKED):
            self.answers(None, held, ASKED, [], mark)

    def test_several_boxes(self):
        told = held(TWO, [[3], [0, 4]], "n")
        for saying in (("gap", 0, 1, 2), ("below", 1, 0), ("most", 1, 0)):
            self.assertIn(saying, told)
        self.assertNotIn(("either", 1, -2, 2), told)
        for runs in ([], [[]], [[3]], [[3], [0, 4]], [[0, 1, 2, 3, 4]], [[4], [4]], [[2, 2, 2], [5]]):
            self.holds(TWO, runs)

    def test_boxes_that_add_and_multiply(self):
        program = read(rows("box a 0 3 0", "box b 0 3 0", "box c 0 9 0", "ask a", "ask b", "put c a+b", "mark sum",
                            "put c a*b", "mark product"))
        runs = [[a, b] for a in range(4) for b in range(4)]
        told = held(program, runs, "sum")
        self.assertIn(("adds", 0, 1, 2), told)
        self.assertNotIn(("times", 0, 1, 2), told)
        told = held(program, runs, "product")
        self.assertIn(("times", 0, 1, 2), told)
        self.assertNotIn(("adds", 0, 1, 2), told)
        for some in (runs, runs[:3], [[2, 2]]):
            self.holds(program, some)

    def test_by_each_end(self):
        for runs in ([[0]], [[1]], [[2]], [[3]], [[4]], [[5]], [[]], [[3, 1], [4]], [[n] for n in range(6)]):
            self.holds(ENDS, runs)

    def test_numbers_below_nought(self):
        for numbers in itertools.product((-3, -2, -1, 0, 1), repeat=2):
            self.holds(ASKED, [list(numbers), [numbers[1]]])

    def test_four_boxes(self):
        program = read(rows("box a 0 1 0", "box b 0 1 0", "box c 0 1 0", "box d 0 2 0", "mark m", "ask a", "ask b",
                            "put c a*b", "put d a+b", "mark n", "go m"))
        for runs in ([[0, 1]], [[0, 1, 1, 1]], [[0, 1], [1, 0], [1, 1], [0, 0]]):
            self.holds(program, runs)

    def test_the_order_of_runs_counts_for_nothing(self):
        runs = [[1, 4], [-3, 2], [5]]
        for mark in marks_of(ASKED):
            for some in itertools.permutations(runs):
                self.just(held(ASKED, list(some), mark), held(ASKED, runs, mark))

    def test_the_told_list_is_the_askers_own(self):
        for mark in marks_of(ASKED):
            self.own(held, ASKED, [[1, 4], [2]], mark)
        self.own(held, ASKED, [[-3, -2, -1, 0, 1, 2], [3], [4], [5]], "down")

    def test_what_is_handed_in_may_be_changed_behind(self):
        runs = [[2]]
        told = held(ASKED, runs, "done")
        written = repr(told)
        runs.append([5])
        runs[0][0] = 3
        self.assertEqual(repr(told), written)
        self.answers(held(ASKED, [[3], [5]], "done"), held, ASKED, runs, "done")


if __name__ == "__main__":
    unittest.main()
