import copy
import unittest

from support import Case, rows
from sayswho.machine import run, step
from sayswho.reader import read

GREAT = 10 ** 30 - 1


class Steps(Case):
    def steps(self, program, standing, number, behind):
        with self.subTest(standing=standing, number=number):
            kept = copy.deepcopy(program)
            self.just(step(program, standing, number), behind)
            self.just(program, kept)

    def test_mark(self):
        program = read(rows("box a 0 9 4", "mark m", "mark n"))
        self.steps(program, (0, (4,)), None, (1, (4,)))
        self.steps(program, (1, (7,)), None, (2, (7,)))

    def test_ask(self):
        program = read(rows("box a -3 5 0", "box b 7 9 8", "box c 0 1 0", "ask b", "ask a", "ask c", "stop"))
        self.steps(program, (0, (2, 8, 1)), 7, (1, (2, 7, 1)))
        self.steps(program, (0, (2, 8, 1)), 8, (1, (2, 8, 1)))
        self.steps(program, (0, (2, 8, 1)), 9, (1, (2, 9, 1)))
        self.steps(program, (0, (2, 8, 1)), 6, None)
        self.steps(program, (0, (2, 8, 1)), 10, None)
        self.steps(program, (1, (2, 8, 1)), -3, (2, (-3, 8, 1)))
        self.steps(program, (1, (2, 8, 1)), 0, (2, (0, 8, 1)))
        self.steps(program, (1, (2, 8, 1)), 5, (2, (5, 8, 1)))
        self.steps(program, (1, (2, 8, 1)), -4, None)
        self.steps(program, (1, (2, 8, 1)), 6, None)
        self.steps(program, (2, (2, 8, 1)), 0, (3, (2, 8, 0)))
        self.steps(program, (2, (2, 8, 1)), 2, None)
        self.steps(program, (0, (2, 8, 1)), GREAT, None)
        self.steps(program, (0, (2, 8, 1)), -GREAT, None)

    def test_put(self):
        program = read(rows("box a -3 5 0", "box b 0 9 0", "put a b-a", "put b b*b+a", "put b 9", "put a 0-3", "put a 6",
                            "put a 0-4"))
        self.steps(program, (0, (1, 4)), None, (1, (3, 4)))
        self.steps(program, (0, (1, 6)), None, (1, (5, 6)))
        self.steps(program, (0, (1, 7)), None, None)
        self.steps(program, (0, (3, 0)), None, (1, (-3, 0)))
        self.steps(program, (0, (4, 0)), None, None)
        self.steps(program, (0, (-3, 2)), None, (1, (5, 2)))
        self.steps(program, (1, (0, 3)), None, (2, (0, 9)))
        self.steps(program, (1, (1, 3)), None, None)
        self.steps(program, (1, (-1, 0)), None, None)
        self.steps(program, (1, (-1, 1)), None, (2, (-1, 0)))
        self.steps(program, (2, (5, 0)), None, (3, (5, 9)))
        self.steps(program, (3, (5, 0)), None, (4, (-3, 0)))
        self.steps(program, (4, (5, 0)), None, None)
        self.steps(program, (5, (5, 0)), None, None)

    def test_go(self):
        program = read(rows("box a 0 9 0", "go n", "mark m", "go m", "mark n", "go m"))
        self.steps(program, (0, (5,)), None, (3, (5,)))
        self.steps(program, (2, (5,)), None, (1, (5,)))
        self.steps(program, (4, (9,)), None, (1, (9,)))

    def test_if_below(self):
        program = read(rows("box a -9 9 0", "box b -9 9 0", "mark m", "if a < b go n", "if b-1 < a*2 go m", "mark n"))
        self.steps(program, (1, (3, 4)), None, (3, (3, 4)))
        self.steps(program, (1, (4, 4)), None, (2, (4, 4)))
        self.steps(program, (1, (5, 4)), None, (2, (5, 4)))
        self.steps(program, (1, (-5, -4)), None, (3, (-5, -4)))
        self.steps(program, (1, (-4, -5)), None, (2, (-4, -5)))
        self.steps(program, (2, (2, 4)), None, (0, (2, 4)))
        self.steps(program, (2, (2, 5)), None, (3, (2, 5)))
        self.steps(program, (2, (2, 6)), None, (3, (2, 6)))

    def test_if_equal(self):
        program = read(rows("box a -9 9 0", "box b -9 9 0", "mark m", "if a = b go n", "if b-1 = a*2 go m", "mark n"))
        self.steps(program, (1, (4, 4)), None, (3, (4, 4)))
        self.steps(program, (1, (3, 4)), None, (2, (3, 4)))
        self.steps(program, (1, (4, 3)), None, (2, (4, 3)))
        self.steps(program, (1, (-4, 4)), None, (2, (-4, 4)))
        self.steps(program, (2, (2, 5)), None, (0, (2, 5)))
        self.steps(program, (2, (2, 4)), None, (3, (2, 4)))
        self.steps(program, (2, (2, 6)), None, (3, (2, 6)))

    def test_if_of_worths_that_no_box_may_hold(self):
        program = read(rows("box a 0 9 0", "mark m", "if a*999 < 998 go m", "if a*999*999 = 999*999 go m"))
        self.steps(program, (1, (0,)), None, (0, (0,)))
        self.steps(program, (1, (1,)), None, (2, (1,)))
        self.steps(program, (2, (1,)), None, (0, (1,)))
        self.steps(program, (2, (2,)), None, (3, (2,)))

    def test_the_last_row(self):
        self.steps(read(rows("box a 0 9 0", "stop", "mark m")), (1, (2,)), None, (2, (2,)))
        self.steps(read(rows("box a 0 9 0", "stop", "ask a")), (1, (2,)), 3, (2, (3,)))
        self.steps(read(rows("box a 0 9 0", "stop", "put a 8")), (1, (2,)), None, (2, (8,)))
        program = read(rows("box a 0 9 0", "mark m", "if a < 2 go m"))
        self.steps(program, (1, (1,)), None, (0, (1,)))
        self.steps(program, (1, (2,)), None, (2, (2,)))
        self.steps(read(rows("box a 0 9 0", "mark m", "go m")), (1, (2,)), None, (0, (2,)))

    def test_before_a_stop(self):
        self.steps(read(rows("box a 0 9 0", "ask a", "stop")), (0, (2,)), 3, (1, (3,)))

    def test_standings_that_no_run_comes_to(self):
        program = read(rows("box a 0 9 0", "box b 0 9 0", "stop", "put b a+1", "mark m"))
        self.steps(program, (1, (8, 3)), None, (2, (8, 9)))
        self.steps(program, (1, (9, 3)), None, None)

    def test_each_box_by_its_place(self):
        boxes = rows("box a 0 3 0", "box b 0 3 0", "box c 0 3 0", "box d 0 3 0")
        for place, name in enumerate("abcd"):
            behind = tuple([3 if k == place else k % 3 for k in range(4)])
            self.steps(read(rows(boxes, "ask " + name)), (0, (0, 1, 2, 0)), 3, (1, behind))
            self.steps(read(rows(boxes, "put " + name + " a+b+c")), (0, (0, 1, 2, 0)), None, (1, behind))

    def test_marks_that_bear_boxes_names(self):
        program = read(rows("box a 0 9 0", "box b 0 9 0", "mark b", "if b < a go b", "put a b"))
        self.steps(program, (0, (5, 4)), None, (1, (5, 4)))
        self.steps(program, (1, (5, 4)), None, (0, (5, 4)))
        self.steps(program, (2, (5, 4)), None, (3, (4, 4)))

    def test_a_program_changed_behind_is_done_as_it_is(self):
        program = read(rows("box a 0 9 0", "put a 3"))
        self.just(step(program, (0, (1,)), None), (1, (3,)))
        program[1][0] = ("put", 0, ("number", 4))
        self.just(step(program, (0, (1,)), None), (1, (4,)))
        program[0][0] = ("a", 0, 3, 0)
        self.just(step(program, (0, (1,)), None), None)


class Runs(Case):
    def runs(self, text, numbers, passed, end):
        with self.subTest(text=text, numbers=numbers[:20]):
            program = read(text)
            kept = copy.deepcopy((program, numbers))
            self.just(run(program, numbers), (passed, end))
            self.just((program, numbers), kept)

    def test_without_statements(self):
        self.runs("box a 0 9 0", [], [], ("end",))
        self.runs("box a 0 9 0", [1, 2], [], ("end",))

    def test_at_the_end(self):
        self.runs(rows("box a 0 9 4", "mark m"), [], [("m", (4,))], ("end",))
        self.runs(rows("box a 0 9 4", "box b -5 5 -5", "mark m", "put a a+1", "mark n"), [],
                  [("m", (4, -5)), ("n", (5, -5))], ("end",))

    def test_a_stop(self):
        self.runs(rows("box a 0 9 4", "stop"), [], [], ("end",))
        self.runs(rows("box a 0 9 4", "mark m", "stop", "mark n"), [3], [("m", (4,))], ("end",))
        self.runs(rows("box a 0 9 4", "go n", "mark m", "stop", "mark n", "go m"), [],
                  [("n", (4,)), ("m", (4,))], ("end",))

    def test_numbers_taken_in_order(self):
        text = rows("box a 0 9 0", "box b 0 9 0", "mark m", "ask b", "mark n", "ask a", "mark k")
        self.runs(text, [3, 8], [("m", (0, 0)), ("n", (0, 3)), ("k", (8, 3))], ("end",))
        self.runs(text, [8, 3], [("m", (0, 0)), ("n", (0, 8)), ("k", (3, 8))], ("end",))

    def test_numbers_left_over(self):
        text = rows("box a 0 9 0", "ask a", "mark m")
        self.runs(text, [3, 4, 5], [("m", (3,))], ("end",))
        self.runs(text, [3, GREAT, -GREAT], [("m", (3,))], ("end",))
        self.runs(rows(text, "stop", "ask a"), [3, 4], [("m", (3,))], ("end",))

    def test_out(self):
        text = rows("box a 0 9 6", "mark m", "ask a", "mark n", "ask a", "mark k")
        self.runs(text, [], [("m", (6,))], ("out",))
        self.runs(text, [1], [("m", (6,)), ("n", (1,))], ("out",))
        self.runs(text, [1, 2], [("m", (6,)), ("n", (1,)), ("k", (2,))], ("end",))
        self.runs(rows("box a 0 9 6", "ask a"), [], [], ("out",))

    def test_far_by_an_ask(self):
        text = rows("box a -2 5 0", "box b 0 1 0", "mark m", "ask b", "mark n", "ask a", "mark k")
        self.runs(text, [1, -2], [("m", (0, 0)), ("n", (0, 1)), ("k", (-2, 1))], ("end",))
        self.runs(text, [1, 5], [("m", (0, 0)), ("n", (0, 1)), ("k", (5, 1))], ("end",))
        self.runs(text, [1, 6], [("m", (0, 0)), ("n", (0, 1))], ("far", 3))
        self.runs(text, [1, -3], [("m", (0, 0)), ("n", (0, 1))], ("far", 3))
        self.runs(text, [2, 0], [("m", (0, 0))], ("far", 1))
        self.runs(text, [-1], [("m", (0, 0))], ("far", 1))
        self.runs(text, [GREAT], [("m", (0, 0))], ("far", 1))
        self.runs(text, [1, -GREAT], [("m", (0, 0)), ("n", (0, 1))], ("far", 3))
        self.runs(rows("box a 3 5 4", "ask a"), [0], [], ("far", 0))

    def test_far_by_a_put(self):
        text = rows("box a -2 5 0", "ask a", "mark m", "put a a+a", "mark n")
        self.runs(text, [2], [("m", (2,)), ("n", (4,))], ("end",))
        self.runs(text, [-1], [("m", (-1,)), ("n", (-2,))], ("end",))
        self.runs(text, [3], [("m", (3,))], ("far", 2))
        self.runs(text, [-2], [("m", (-2,))], ("far", 2))
        self.runs(rows("box a 0 0 0", "put a 1"), [], [], ("far", 0))
        self.runs(rows("box a 0 0 0", "put a 0-1"), [], [], ("far", 0))
        self.runs(rows("box a 0 9 9", "mark m", "put a a" + "*a" * 29), [], [("m", (9,))], ("far", 1))
        self.runs(rows("box a 0 1 0", "box b 0 1 0", "box c 0 1 0", "box d 0 1 0", "go m", "stop", "mark m", "put d 2"),
                  [], [("m", (0, 0, 0, 0))], ("far", 3))

    def test_far_in_a_loop(self):
        self.runs(rows("box a 0 3 1", "mark m", "put a a+1", "go m"), [], [("m", (1,)), ("m", (2,)), ("m", (3,))],
                  ("far", 1))

    def test_far_at_the_last_row(self):
        self.runs(rows("box a 0 3 1", "mark m", "ask a"), [4], [("m", (1,))], ("far", 1))

    def test_ifs(self):
        text = rows("box a 0 9 0", "ask a", "if a < 3 go low", "if a = 7 go seven", "mark other", "stop", "mark low",
                    "stop", "mark seven")
        names = {0: "low", 1: "low", 2: "low", 7: "seven"}
        for n in range(10):
            self.runs(text, [n], [(names.get(n, "other"), (n,))], ("end",))

    def test_round_at_once(self):
        self.runs(rows("box a 0 9 4", "mark m", "go m"), [], [("m", (4,))], ("round",))
        self.runs(rows("box a 0 9 4", "mark m", "go m"), [1, 2, 3], [("m", (4,))], ("round",))
        self.runs(rows("box a 0 9 4", "mark m", "mark n", "if 1 < 2 go m", "mark k"), [], [("m", (4,)), ("n", (4,))],
                  ("round",))

    def test_round_behind_a_start_of_its_own(self):
        self.runs(rows("box a 0 9 4", "mark k", "put a 1", "mark m", "mark n", "go m"), [],
                  [("k", (4,)), ("m", (1,)), ("n", (1,))], ("round",))
        self.runs(rows("box a 0 9 4", "go k", "mark m", "mark k", "go m"), [], [("k", (4,)), ("m", (4,))], ("round",))

    def test_round_where_a_put_makes_standings_alike(self):
        self.runs(rows("box a 0 1 0", "mark m", "put a 1", "go m"), [], [("m", (0,)), ("m", (1,))], ("round",))
        self.runs(rows("box a 0 9 5", "mark m", "put a 3", "mark n", "go m"), [],
                  [("m", (5,)), ("n", (3,)), ("m", (3,))], ("round",))

    def test_round_with_other_values_between(self):
        self.runs(rows("box a 0 3 0", "mark m", "put a a+1", "if a < 3 go m", "put a 0", "go m"), [],
                  [("m", (0,)), ("m", (1,)), ("m", (2,))], ("round",))
        self.runs(rows("box a -1 1 1", "mark m", "put a 0-a", "mark n", "go m"), [],
                  [("m", (1,)), ("n", (-1,)), ("m", (-1,)), ("n", (1,))], ("round",))
        self.runs(rows("box a 0 5 0", "mark m", "put a a+1", "if a < 5 go m", "put a 2", "go m"), [],
                  [("m", (0,)), ("m", (1,)), ("m", (2,)), ("m", (3,)), ("m", (4,))], ("round",))

    def test_round_where_only_one_box_is_as_before(self):
        self.runs(rows("box a 0 1 0", "box b 0 3 0", "mark m", "put a 1-a", "if b = 3 go m", "put b b+1", "go m"), [],
                  [("m", (0, 0)), ("m", (1, 1)), ("m", (0, 2)), ("m", (1, 3)), ("m", (0, 3))], ("round",))

    def test_no_round_where_a_number_was_taken_between(self):
        text = rows("box a 0 9 4", "mark m", "ask a", "go m")
        self.runs(text, [], [("m", (4,))], ("out",))
        self.runs(text, [4], [("m", (4,))] * 2, ("out",))
        self.runs(text, [4, 4, 4], [("m", (4,))] * 4, ("out",))
        self.runs(text, [4, 4, 10], [("m", (4,))] * 3, ("far", 1))
        self.runs(text, [4, 7, 4, 7], [("m", (4,)), ("m", (4,)), ("m", (7,)), ("m", (4,)), ("m", (7,))], ("out",))

    def test_round_behind_a_taken_number(self):
        text = rows("box a 0 9 4", "mark m", "ask a", "mark n", "if a = 0 go n", "go m")
        self.runs(text, [0], [("m", (4,)), ("n", (0,))], ("round",))
        self.runs(text, [4, 4, 0, 1], [("m", (4,)), ("n", (4,)), ("m", (4,)), ("n", (4,)), ("m", (4,)), ("n", (0,))],
                  ("round",))
        self.runs(text, [4, 1], [("m", (4,)), ("n", (4,)), ("m", (4,)), ("n", (1,)), ("m", (1,))], ("out",))

    def test_a_standing_from_ahead_of_a_number_comes_again(self):
        # Where the first standing comes again, a number was taken between: only its second coming again is round.
        text = rows("box a 0 2 0", "box b 0 1 0", "mark m", "if b = 1 go m", "ask b", "mark n", "go m")
        self.runs(text, [0, 0, 1], [("m", (0, 0)), ("n", (0, 0)), ("m", (0, 0)), ("n", (0, 0)), ("m", (0, 0)),
                                    ("n", (0, 1)), ("m", (0, 1))], ("round",))

    def test_an_ask_of_what_the_box_holds_is_a_number_taken(self):
        text = rows("box a 0 1 0", "mark m", "ask a", "if a = 0 go m", "stop")
        self.runs(text, [0] * 9, [("m", (0,))] * 10, ("out",))
        self.runs(text, [0] * 9 + [1], [("m", (0,))] * 10, ("end",))

    def counting(self, *behind):
        # Through all 400 values, by 60 rows: as long between two numbers as a run may become.
        head = ["box a 0 19 0", "box b 0 19 0", "mark m"]
        tail = ["if b < 19 go more", "if a = 19 go done", "put a a+1", "put b 0", "go m", "mark more", "put b b+1",
                "go m", "mark done", *behind]
        passed = []
        for a in range(20):
            for b in range(20):
                passed += [("m", (a, b)), ("more", (a, b))]
        passed[-1] = ("done", (19, 19))
        for b in range(19):
            passed.remove(("more", (b, 19)))
        return rows(*head, *["put a a"] * (60 - len(head) - len(tail)), *tail), passed

    def test_a_long_run_is_no_round(self):
        text, passed = self.counting()
        self.runs(text, [], passed, ("end",))

    def test_a_long_run_may_become_round(self):
        text, passed = self.counting("put a 0", "put b 0", "go m")
        self.runs(text, [], passed, ("round",))

    def test_a_long_input(self):
        numbers = [k % 3 for k in range(5000)]
        self.runs(rows("box a 0 2 2", "mark m", "ask a", "go m"), numbers, [("m", (n,)) for n in [2] + numbers],
                  ("out",))


class Askers(Case):
    def test_the_told_list_is_the_askers_own(self):
        program = read(rows("box a 0 9 4", "mark m", "ask a", "mark n"))
        told = run(program, [3])
        self.just(told, ([("m", (4,)), ("n", (3,))], ("end",)))
        told[0].clear()
        self.just(run(program, [3]), ([("m", (4,)), ("n", (3,))], ("end",)))
        self.assertIsNot(run(program, [3])[0], run(program, [3])[0])

    def test_a_list_without_marks_is_the_askers_own(self):
        program = read("box a 0 9 4")
        run(program, [])[0].append("more")
        self.just(run(program, []), ([], ("end",)))

    def test_the_numbers_handed_in_stay(self):
        program = read(rows("box a 0 9 4", "mark m", "ask a", "go m"))
        numbers = [1, 2, 3]
        first = copy.deepcopy(run(program, numbers))
        self.just(numbers, [1, 2, 3])
        self.just(run(program, numbers), first)
        numbers[0] = 7
        self.just(run(program, numbers), ([("m", (4,)), ("m", (7,)), ("m", (2,)), ("m", (3,))], ("out",)))

    def test_the_program_handed_in_stays(self):
        program = read(rows("box a 0 9 4", "box b 0 9 0", "mark m", "ask a", "put b a", "if a < 5 go m"))
        kept = copy.deepcopy(program)
        run(program, [1, 2, 9])
        self.just(program, kept)

    def test_a_program_changed_behind_is_run_as_it_is(self):
        program = read(rows("box a 0 9 4", "mark m"))
        self.just(run(program, []), ([("m", (4,))], ("end",)))
        program[0][0] = ("a", 0, 9, 5)
        program[1].append(("put", 0, ("number", 10)))
        self.just(run(program, []), ([("m", (5,))], ("far", 1)))

    def test_runs_know_nothing_of_one_another(self):
        program = read(rows("box a 0 9 4", "mark m", "ask a", "go m"))
        for numbers in ([], [1], [2, 3], []):
            self.just(run(program, numbers), ([("m", (n,)) for n in [4] + numbers], ("out",)))


if __name__ == "__main__":
    unittest.main()
