import itertools
import random
import unittest

from plain import Plain
from support import Case, lists_in, made_text, rows
from sayswho.forms import is_so, sayings, shown_saying
from sayswho.judge import judged, settled
from sayswho.machine import run
from sayswho.papers import greatest
from sayswho.reader import marks_of, read
from sayswho.seen import held, seen
from sayswho.ways import passable

FAR = 10 ** 30 - 1

ASKED = rows("box a -2 3 0", "mark top", "ask a", "mark m", "if a < 0 go top", "ask a", "mark n")
# At m b is the square of a, which no saying tells: so that b is 0 at n can neither be shown nor broken.
SQUARE = rows("box a 0 3 0", "box b 0 9 0", "ask a", "put b a*a", "mark m", "put b b-a*a", "mark n")
DEAD = rows("box a 0 5 0", "mark m", "ask a", "if a < 4 go m", "stop", "mark dead", "put a 5", "go m")
LATER = rows("box a 0 2 0", "box b 0 2 0", "go b", "mark c", "stop", "mark b", "ask a", "if a = 2 go c", "ask b",
             "if b < a go b", "mark d", "put a 0", "mark e")
THREE = rows("box a 0 2 0", "box b 0 2 0", "box c 0 4 0", "mark m", "ask a", "ask b", "put c a+b", "mark n",
             "if a < b go m", "mark k")
COUNT = rows("box a 0 5 0", "mark m", "if a = 3 go end", "put a a+1", "go m", "mark end")
TEXTS = (ASKED, SQUARE, DEAD, LATER, THREE, COUNT)
BOXES = (("box a -2 3 1",), ("box a -1 1 0", "box b 0 1 1"), ("box a 0 1 0", "box b -1 1 0", "box c 0 2 1"))


def plain_of(text):
    program = read(text)
    return Plain(text, {saying: shown_saying(program, saying) for saying in sayings(program)})


def some_runs(chance):
    # Also numbers that no box may hold.
    return [[chance.choice([-3, -2, -1, 0, 0, 1, 1, 2, 3, FAR]) for _ in range(chance.randrange(6))]
            for _ in range(chance.randrange(5))]


def verdicts(program, runs, mark):
    return {shown_saying(program, saying): verdict for name, saying, verdict in judged(program, runs) if name == mark}


class Judged(Case):
    def told(self, program, runs, mark, expected):
        # Of some sayings, by their texts, their verdicts at the mark.
        told = verdicts(program, runs, mark)
        for text, verdict in expected.items():
            with self.subTest(text=text, runs=runs):
                self.just(told.get(text), verdict)

    def test_all_of_a_small_program(self):
        program = read(rows("box a 0 2 0", "mark m", "ask a", "if a = 2 go n", "stop", "mark n"))
        shown = [("m", saying, "shown") for saying in held(program, [[]], "m")]
        self.answers(shown, judged, program, [[]])
        self.answers(shown, judged, program, [[1]])
        self.answers(shown + [("n", saying, "shown") for saying in held(program, [[2]], "n")], judged, program, [[2]])

    def test_each_verdict_of_a_small_program(self):
        program = read(rows("box a 0 1 0", "ask a", "mark m"))
        broken = ("broken", [1])
        self.answers([("m", ("is", 0, 0), broken), ("m", ("to", 0, 0), broken), ("m", ("rest", 0, 2, 0), broken),
                      ("m", ("rest", 0, 3, 0), broken), ("m", ("rest", 0, 4, 0), broken),
                      ("m", ("rest", 0, 5, 0), broken), ("m", ("rest", 0, 6, 0), broken),
                      ("m", ("either", 0, 0, 1), "shown"), ("m", ("never", 0, 1), broken)],
                     judged, program, [[0]])
        self.answers([("m", ("either", 0, 0, 1), "shown")], judged, program, [[0], [1]])

    def test_marks_as_they_stand(self):
        program = read(LATER)
        marks = [name for name, _, _ in judged(program, [[0, 1], [2]])]
        self.assertEqual(marks, sorted(marks, key=["c", "b", "d", "e"].index))
        self.assertEqual(set(marks), {"c", "b", "d", "e"})

    def test_marks_that_were_not_passed_are_left_out(self):
        program = read(LATER)
        self.assertEqual({name for name, _, _ in judged(program, [[2]])}, {"c", "b"})
        self.assertEqual({name for name, _, _ in judged(program, [[]])}, {"b"})
        self.assertEqual({name for name, _, _ in judged(program, [[0, 0], [1]])}, {"b", "d", "e"})

    def test_each_saying_that_held_once_in_order(self):
        for text in TEXTS:
            program = read(text)
            for runs in ([], [[]], [[2]], [[-1, 2, 3], [2, 2]], [[0, 1], [1, 1], [1, 0, 2]], [[0], [0]]):
                expected = [(mark, saying) for mark in marks_of(program) for saying in held(program, runs, mark) or []]
                self.just([(mark, saying) for mark, saying, _ in judged(program, runs)], expected)

    def test_no_runs(self):
        for text in TEXTS:
            self.answers([], judged, read(text), [])

    def test_no_marks(self):
        self.answers([], judged, read(rows("box a 0 9 0", "ask a")), [[1]])
        self.answers([], judged, read("box a 0 9 0"), [[], [3]])

    def test_a_program_that_asks_for_nothing(self):
        program = read(COUNT)
        for runs in ([[]], [[1, 2]]):
            self.assertEqual({verdict for _, _, verdict in judged(program, runs)}, {"shown"})

    def test_shown_by_others_that_held(self):
        # By itself a <= 4 couldn't be shown, but a <= 3 held too.
        self.told(read(COUNT), [[]], "m", {"a <= 4": "shown", "a not 5": "shown", "a <= 3": "shown", "a <= 2": None})

    def test_marks_that_were_not_passed_have_all_sayings(self):
        # From dead a run would come to m with 5, but of no values all sayings are so.
        program = read(DEAD)
        self.told(program, [[1, 2, 3]], "m", {"a <= 3": "shown", "a <= 4": "shown", "a not 5": "shown"})
        # n can be passed: not all of its sayings can be shown, and what is let by there comes to m.
        program = read(rows("box a 0 5 0", "mark m", "ask a", "if 3 < a go n", "go m", "mark n", "put a a-1", "go m"))
        self.told(program, [[1, 2]], "m", {"a <= 4": "shown", "a not 5": "shown", "a <= 2": ("broken", [3]),
                                           "a <= 3": ("broken", [5])})

    def test_shown_at_one_mark_and_broken_at_another(self):
        program = read(ASKED)
        self.told(program, [[-1, 2, 2]], "top", {"a <= 0": "shown", "a <= 1": "shown", "a >= -1": ("broken", [-2])})
        self.told(program, [[-1, 2, 2]], "m", {"a <= 2": ("broken", [3]), "a in -1 2": ("broken", [-2]),
                                               "a >= -1": ("broken", [-2]), "a not 0": ("broken", [0])})
        self.told(program, [[-1, 2, 2]], "n", {"a = 2": ("broken", [0, -2]), "a <= 2": ("broken", [0, 3]),
                                               "a >= -1": ("broken", [0, -2]), "a not 1": ("broken", [0, 1])})

    def test_the_fewest_numbers_of_all_values(self):
        # Values that break it come by two low numbers, others by one high number.
        program = read(rows("box a 0 9 0", "box b 0 9 0", "ask a", "if a = 9 go m", "ask b", "mark m"))
        self.told(program, [[1, 1]], "m", {"a = 1": ("broken", [9]), "b = 1": ("broken", [9]), "a = b": ("broken", [9]),
                                           "a <= 1": ("broken", [9]), "b <= 1": ("broken", [0, 2]),
                                           "b <= a": ("broken", [0, 1]), "a <= b": ("broken", [9])})

    def test_the_first_by_its_numbers(self):
        program = read(rows("box a -3 3 0", "box b -3 3 0", "ask a", "ask b", "mark m"))
        self.told(program, [[1, 2]], "m", {"a = 1": ("broken", [-3, -3]), "b = 2": ("broken", [-3, -3]),
                                           "a < b": ("broken", [-3, -3]), "a <= b": ("broken", [-2, -3]),
                                           "a <= 1": ("broken", [2, -3]), "a - b = -1": ("broken", [-3, -3]),
                                           "a + b = 3": ("broken", [-3, -3]), "b <= 2": ("broken", [-3, 3]),
                                           "a not -3": ("broken", [-3, -3]), "a not 3": ("broken", [3, -3])})

    def test_where_some_runs_go_round_or_far(self):
        program = read(rows("box a -2 2 0", "mark m", "ask a", "mark n", "if a = 1 go n", "put a a*2", "mark k", "ask a",
                            "go m"))
        self.told(program, [[0, 0]], "m", {"a = 0": ("broken", [-1, -2]), "a <= 1": ("broken", [-1, 2])})
        self.told(program, [[0, 0]], "k", {"a = 0": ("broken", [-1]), "a <= 0": "shown", "a not 1": "shown",
                                           "a rest 2 = 0": "shown"})

    def test_open(self):
        program = read(SQUARE)
        self.told(program, [[1]], "n", {"b = 0": "open", "b <= 8": "open", "b not 1": "open", "b <= a": "open",
                                        "a = 1": ("broken", [0]), "b not 7": "shown", "b < a": ("broken", [0])})
        every = [[0], [1], [2], [3]]
        self.told(program, every, "n", {"b = 0": "open", "b <= 8": "open", "b <= a": "open", "b not 7": "shown"})
        self.told(program, every, "m", {"a <= b": "shown", "b not 2": "shown", "b not 3": "shown"})
        self.assertNotIn("open", verdicts(program, every, "m").values())

    def test_numbers_that_a_box_may_not_hold(self):
        program = read(ASKED)
        for runs in ([[-1, FAR]], [[-1, -3, 0]], [[-1, 4], [9]]):
            self.answers(judged(program, [[-1]]), judged, program, runs)
        self.answers([("top", saying, verdict) for _, saying, verdict in judged(program, [[]])], judged, program, [[-FAR]])

    def test_runs_told_more_than_once(self):
        program = read(THREE)
        expected = judged(program, [[0, 1], [2, 2]])
        self.answers(expected, judged, program, [[2, 2], [0, 1], [0, 1], [2, 2]])

    def test_shown_just_where_the_greatest_paper_has_it(self):
        chance = random.Random(31)
        for text in TEXTS:
            program = read(text)
            for _ in range(6):
                runs = some_runs(chance)
                found = [(mark, held(program, runs, mark)) for mark in marks_of(program)]
                paper = [(mark, sayings(program) if some is None else some) for mark, some in found]
                told = dict(greatest(program, paper))
                passed = dict(passable(program))
                for mark, saying, verdict in judged(program, runs):
                    self.assertEqual(verdict == "shown", saying in told[mark])
                    broken = not all(is_so(saying, values) for values in passed[mark])
                    self.assertEqual(isinstance(verdict, tuple), broken)

    def test_what_is_told_as_broken_is_broken(self):
        chance = random.Random(32)
        for text in TEXTS:
            program = read(text)
            for _ in range(4):
                for mark, saying, verdict in judged(program, some_runs(chance)):
                    if isinstance(verdict, tuple):
                        self.assertEqual(verdict[0], "broken")
                        passed = run(program, verdict[1])[0]
                        self.assertTrue([values for name, values in passed if name == mark and not is_so(saying, values)])

    def test_apart_from_the_package(self):
        chance = random.Random(33)
        for text in TEXTS:
            plain = plain_of(text)
            for runs in [[[]]] + [some_runs(chance) for _ in range(3)]:
                with self.subTest(text=text, runs=runs):
                    self.answers(plain.judged(runs), judged, read(text), runs)

    def test_made_programs(self):
        chance = random.Random(34)
        for boxes in BOXES:
            for _ in range(20):
                text = made_text(chance, *boxes)
                plain = plain_of(text)
                for _ in range(3):
                    runs = some_runs(chance)
                    with self.subTest(text=text, runs=runs):
                        self.answers(plain.judged(runs), judged, read(text), runs)

    def test_the_told_lists_are_the_askers_own(self):
        self.own(judged, read(ASKED), [])
        self.own(judged, read(ASKED), [[-1, 2, 2]])
        self.own(judged, read(SQUARE), [[1]])
        numbers = [1, 2]
        self.own(judged, read(THREE), [numbers, numbers])
        self.assertGreater(len(lists_in(judged(read(THREE), [numbers]))), 2)

    def test_what_is_handed_in_may_be_changed_behind(self):
        program = read(ASKED)
        runs = [[-1, 2, 2]]
        told = judged(program, runs)
        written = repr(told)
        runs[0].append(1)
        runs.append([3])
        program[0][0] = ("a", -1, 3, 0)
        self.assertEqual(repr(told), written)
        self.answers(plain_of(ASKED.replace("-2", "-1")).judged(runs), judged, program, runs)


class Settled(Case):
    def test_no_runs(self):
        program = read(rows("box a 0 2 0", "ask a", "mark m"))
        self.answers([[0], [1], [2]], settled, program, [])
        program = read(rows("box a 0 2 0", "mark m", "ask a", "mark n"))
        self.answers([[], [0], [1], [2]], settled, program, [])

    def test_the_runs_handed_in_come_first_as_they_are(self):
        program = read(rows("box a 0 2 0", "ask a", "mark m"))
        self.answers([[2], [0], [1]], settled, program, [[2]])
        self.answers([[1], [0], [2]], settled, program, [[1]])
        self.answers([[1], [], [1], [9, 9], [1, 2, 3], [0], [2]], settled, program, [[1], [], [1], [9, 9], [1, 2, 3]])
        self.answers([[-FAR], [FAR], [0], [1], [2]], settled, program, [[-FAR], [FAR]])
        self.answers([[2], [1], [0], [2]], settled, program, [[2], [1], [0], [2]])

    def test_no_marks(self):
        self.answers([], settled, read("box a 0 9 0"), [])
        self.answers([[3], []], settled, read(rows("box a 0 9 0", "ask a")), [[3], []])

    def test_marks_that_no_run_passes(self):
        program = read(rows("box a 0 2 0", "mark m", "ask a", "put a 0", "mark n", "ask a", "put a 1", "mark k"))
        self.answers([[], [0], [0, 0]], settled, program, [])
        self.answers([[1], [0, 0]], settled, program, [[1]])
        self.answers([[2, 2]], settled, program, [[2, 2]])

    def test_also_where_nothing_is_broken(self):
        program = read(rows("box a -2 2 0", "mark m", "ask a", "put a 0", "mark n"))
        self.assertEqual({verdict for _, _, verdict in judged(program, [[]])}, {"shown"})
        self.answers([[], [-2]], settled, program, [[]])

    def test_unless_a_run_put_in_ahead_passes_it(self):
        program = read(rows("box a 0 2 0", "go b", "mark c", "stop", "mark b", "ask a", "put a 0", "go c"))
        self.answers([[0]], settled, program, [])
        self.answers([[], [0]], settled, program, [[]])
        program = read(rows("box a 0 2 0", "ask a", "if a < 1 go k", "mark m", "put a 0", "mark n", "mark k", "put a 1",
                            "mark e"))
        self.answers([[1], [2]], settled, program, [])

    def test_marks_in_their_order(self):
        # n stands ahead of m, though less numbers lead to m.
        program = read(rows("box a 0 1 0", "ask a", "if a < 1 go m", "ask a", "mark n", "put a 0", "stop", "mark m"))
        self.answers([[1, 0], [0], [1, 1]], settled, program, [])
        self.answers([[0], [1, 0], [1, 1]], settled, program, [[0]])

    def test_marks_come_ahead_of_what_is_broken(self):
        program = read(rows("box a 0 1 0", "ask a", "mark m", "if a < 1 go m", "ask a", "put a 1", "mark n"))
        self.answers([[0], [1, 0]], settled, program, [])
        self.answers([[0], [1, 0]], settled, program, [[0]])
        self.answers([[1], [1, 0], [0]], settled, program, [[1]])

    def test_marks_that_no_run_can_pass(self):
        program = read(rows("box a 0 2 0", "mark m", "stop", "mark n"))
        self.answers([[]], settled, program, [])
        self.answers([[1]], settled, program, [[1]])
        self.answers([[3], []], settled, read(rows("box a 0 2 0", "stop", "mark m")), [[3], []])

    def test_the_first_broken_one_again_and_again(self):
        program = read(rows("box a -1 1 0", "box b -1 1 0", "ask a", "mark m", "ask b", "mark n"))
        # At m `a = 1` and `a rest 2 = 1` fall, then at n these, and `b rest 2 = 1`.
        self.answers([[1, 1], [-1], [0], [-1, -1], [0, -1], [-1, 0]], settled, program, [[1, 1]])
        # The marks by [], [-2] and [0, -2]; at top `a rest 2 = 0` falls, at m `a <= 0`.
        self.just(settled(read(ASKED), [])[:5], [[], [-2], [0, -2], [-1], [1]])

    def test_each_run_put_in_is_the_first_broken_ones(self):
        chance = random.Random(35)
        for text in TEXTS:
            program = read(text)
            for runs in [[]] + [some_runs(chance) for _ in range(2)]:
                told = settled(program, runs)
                broken = [verdict[1] for _, _, verdict in judged(program, runs) if isinstance(verdict, tuple)]
                unseen = [mark for mark, values in passable(program) if values and not dict(seen(program, runs))[mark]]
                if not unseen:
                    self.just(told[len(runs):len(runs) + 1], broken[:1])
                for count in range(len(runs) + len(unseen), len(told)):
                    first = [verdict[1] for _, _, verdict in judged(program, told[:count]) if isinstance(verdict, tuple)][0]
                    self.just(told[count], first)

    def check(self, program, told):
        # Behind it nothing is broken, and what held is just what is so in every run.
        self.assertEqual([each for each in judged(program, told) if isinstance(each[2], tuple)], [])
        for mark, values in passable(program):
            expected = [saying for saying in sayings(program) if all(is_so(saying, each) for each in values)]
            self.just(held(program, told, mark), expected if values else None)

    def test_what_held_is_what_is_so_in_every_run(self):
        chance = random.Random(36)
        for text in TEXTS:
            program = read(text)
            for runs in [[]] + [some_runs(chance) for _ in range(4)]:
                self.check(program, settled(program, runs))

    def test_settled_runs_stay(self):
        chance = random.Random(37)
        for text in TEXTS:
            program = read(text)
            told = settled(program, some_runs(chance))
            self.answers(told, settled, program, told)

    def test_the_order_of_the_runs_counts_for_nothing(self):
        for text in TEXTS:
            program = read(text)
            runs = [[1, 1], [0], [-1, 2, 0, 2]]
            expected = [held(program, settled(program, []), mark) for mark in marks_of(program)]
            for some in itertools.permutations(runs):
                told = settled(program, list(some))
                self.just(told[:3], list(some))
                self.just([held(program, told, mark) for mark in marks_of(program)], expected)

    def test_apart_from_the_package(self):
        chance = random.Random(38)
        for text in TEXTS:
            plain = plain_of(text)
            for runs in [[]] + [some_runs(chance) for _ in range(2)]:
                with self.subTest(text=text, runs=runs):
                    self.answers(plain.settled(runs), settled, read(text), runs)

    def test_made_programs(self):
        chance = random.Random(39)
        for boxes in BOXES:
            for _ in range(20):
                text = made_text(chance, *boxes)
                plain = plain_of(text)
                for runs in [[]] + [some_runs(chance) for _ in range(2)]:
                    with self.subTest(text=text, runs=runs):
                        self.answers(plain.settled(runs), settled, read(text), runs)
                        self.check(read(text), settled(read(text), runs))

    def test_many_values(self):
        program = read(rows("box a 0 19 0", "box b 0 19 0", "mark m", "ask a", "ask b", "if a < b go m", "mark n"))
        told = settled(program, [])
        self.check(program, told)
        self.just(held(program, told, "n"), [("most", 1, 0)])

    def test_long_inputs(self):
        program = read(rows("box a -1 0 0", "box b 0 19 0", "box c 0 9 0", "mark m", "ask a", "if a = 0 go end", "put a 0",
                            "if b = 19 go more", "put b b+1", "go m", "mark more", "put b 0", "put c c+1", "go m",
                            "mark end"))
        told = settled(program, [])
        self.just(told[:3], [[], [-1] * 20, [0]])
        self.check(program, told)

    def test_the_told_lists_are_the_askers_own(self):
        numbers = [1, 0]
        for text in TEXTS:
            self.own(settled, read(text), [])
            self.own(settled, read(text), [numbers, numbers])

    def test_what_is_handed_in_may_be_changed_behind(self):
        program = read(rows("box a 0 2 0", "ask a", "mark m"))
        runs = [[2]]
        told = settled(program, runs)
        runs[0].append(7)
        runs.append([1])
        program[1].clear()
        self.just(told, [[2], [0], [1]])
        self.answers([[2, 7], [1]], settled, program, runs)


if __name__ == "__main__":
    unittest.main()
