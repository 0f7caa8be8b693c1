import itertools
import random
import unittest

from support import Case, every, rows
from sayswho.follows import follows, reason, thinned
from sayswho.forms import is_so, read_saying, sayings
from sayswho.reader import read
from sayswho.seen import held

ONE = read("box a -2 5 0")
ONE_NUMBER = read("box a 5 5 5")
TWO = read(rows("box a 0 4 0", "box b -1 3 0"))
THREE = read(rows("box a 0 3 0", "box b 0 3 0", "box c 0 6 0"))
FOUR = read(rows("box a 0 1 0", "box b 0 2 0", "box c 4 4 4", "box d -2 2 0"))
WIDE = read(rows("box a 0 19 0", "box b -10 9 0"))


def of(program, *texts):
    return [read_saying(program, text) for text in texts]


def so_values(program, saying):
    return {values for values in every(program) if is_so(saying, values)}


class Told:
    # What point 14 and 15 ask for, walked plainly by sets of values.
    def __init__(self, program):
        self.every = set(every(program))
        self.sets = {saying: so_values(program, saying) for saying in sayings(program)}

    def follows(self, saying, others):
        return self.every.intersection(*[self.sets[other] for other in others]) <= self.sets[saying]

    def thinned(self, some):
        left = list(range(len(some)))
        for place in range(len(some) - 1, -1, -1):
            beside = [some[k] for k in left if k != place]
            if self.follows(some[place], beside):
                left.remove(place)
        return [some[k] for k in left]

    def reason(self, saying, others):
        for count in range(4):
            for chosen in itertools.combinations(others, count):
                if self.follows(saying, chosen):
                    return list(chosen)
        return None


class Follows(Case):
    def follow(self, program, saying, *others):
        with self.subTest(saying=saying, others=others):
            self.answers(True, follows, program, read_saying(program, saying), of(program, *others))

    def not_follow(self, program, saying, *others):
        with self.subTest(saying=saying, others=others):
            self.answers(False, follows, program, read_saying(program, saying), of(program, *others))

    def test_from_none(self):
        self.not_follow(ONE, "a = 3")
        self.not_follow(ONE, "a >= -1")
        self.not_follow(ONE, "a <= 4")
        self.not_follow(ONE, "a rest 2 = 0")
        self.not_follow(TWO, "a < b")
        self.not_follow(ONE, "a not -2")
        self.not_follow(ONE, "a not 5")

    def test_what_is_so_of_all_values(self):
        self.follow(ONE_NUMBER, "a = 5")
        self.follow(ONE_NUMBER, "a rest 2 = 1")
        self.not_follow(ONE_NUMBER, "a rest 2 = 0")
        self.not_follow(ONE_NUMBER, "a not 5")
        self.follow(FOUR, "a < c")
        self.follow(FOUR, "d <= c")
        self.follow(FOUR, "c = 4", "a = 1")
        self.follow(read("box a 3 4 3"), "a in 3 4")
        self.follow(read(rows("box a 0 2 0", "box b 2 4 2")), "a <= b")
        self.not_follow(read(rows("box a 0 2 0", "box b 2 4 2")), "a < b")
        self.not_follow(read(rows("box a 0 3 0", "box b 2 4 2")), "a <= b")

    def test_from_one(self):
        self.follow(ONE, "a >= 3", "a = 3")
        self.follow(ONE, "a >= 3", "a >= 4")
        self.not_follow(ONE, "a >= 4", "a >= 3")
        self.follow(ONE, "a >= 3", "a >= 3")
        self.follow(ONE, "a = 5", "a >= 5")
        self.not_follow(ONE, "a = 4", "a >= 4")
        self.follow(ONE, "a = -2", "a <= -2")
        self.follow(ONE, "a rest 2 = 0", "a rest 4 = 2")
        self.not_follow(ONE, "a rest 4 = 2", "a rest 2 = 0")
        self.follow(ONE, "a in -2 3", "a rest 5 = 3")
        self.follow(ONE, "a not 3", "a in 2 4")
        self.follow(TWO, "a <= b", "a = b")
        self.not_follow(TWO, "a = b", "a <= b")
        self.follow(TWO, "b <= a", "b < a")
        self.follow(TWO, "a not 4", "a = b")
        self.not_follow(TWO, "a not 3", "a = b")

    def test_from_several(self):
        self.follow(ONE, "a = 3", "a >= 3", "a <= 3")
        self.not_follow(ONE, "a = 3", "a >= 3", "a <= 4")
        self.follow(ONE, "a = 3", "a >= 3", "a <= 4", "a not 4")
        self.follow(TWO, "a = b", "a <= b", "b <= a")
        self.follow(TWO, "a - b = 2", "a = 1", "b = -1")
        self.not_follow(TWO, "a - b = 2", "a = 1", "b = 0")
        self.follow(THREE, "a + b = c", "a = 1", "b = 2", "c = 3")
        self.follow(THREE, "a = 0", "a + b = c", "b = c")
        self.follow(THREE, "a < c", "a + b = c", "b >= 1")
        self.not_follow(THREE, "a < c", "a + b = c")
        self.follow(FOUR, "a = d", "a = 0", "d >= 0", "d <= 0")

    def test_bounds_of_the_boxes_count(self):
        self.follow(ONE, "a = 5", "a >= 4", "a not 4")
        self.not_follow(read("box a -2 6 0"), "a = 5", "a >= 4", "a not 4")
        self.follow(TWO, "a = 0", "a + b = -1")
        self.not_follow(TWO, "a = 0", "a + b = 0")
        self.follow(TWO, "b = 3", "a + b = 7")

    def test_others_of_which_no_values_are_so(self):
        for saying in sayings(TWO):
            self.assertIs(follows(TWO, saying, of(TWO, "a = 1", "a = 2")), True)
            self.assertIs(follows(TWO, saying, of(TWO, "a + b = 8")), True)
            self.assertIs(follows(TWO, saying, of(TWO, "a - b = 20")), True)
            self.assertIs(follows(TWO, saying, of(TWO, "a < b", "b < a")), True)
        self.follow(ONE_NUMBER, "a rest 2 = 0", "a not 5")

    def test_more_than_four_hundred_values(self):
        program = ([("a", 0, 24, 0), ("b", 0, 24, 0)], [])
        self.answers(True, follows, program, ("is", 0, 24), [("from", 0, 24)])
        self.answers(False, follows, program, ("is", 0, 24), [("from", 0, 23)])
        self.answers([("from", 0, 24)], thinned, program, [("from", 0, 24), ("is", 0, 24), ("never", 0, 23)])
        self.answers([("from", 0, 23), ("never", 0, 23)], reason, program, ("is", 0, 24),
                     [("never", 1, 3), ("from", 0, 23), ("never", 0, 23)])

    def test_told_more_than_once_in_any_order(self):
        others = of(THREE, "a = 1", "b = 2", "a + b = c")
        for some in itertools.permutations(others + others[:1]):
            self.answers(True, follows, THREE, ("is", 2, 3), list(some))
            self.answers(False, follows, THREE, ("is", 2, 2), list(some))

    def test_the_saying_among_the_others(self):
        for saying in sayings(TWO):
            self.assertIs(follows(TWO, saying, [saying]), True)
            self.assertIs(follows(TWO, saying, [("is", 0, 2), saying]), True)

    def test_each_saying_from_each(self):
        for program in (ONE, ONE_NUMBER, read(rows("box a 0 2 0", "box b -1 1 0"))):
            told = Told(program)
            for saying in sayings(program):
                self.assertIs(follows(program, saying, []), told.follows(saying, []))
                for other in sayings(program):
                    self.assertIs(follows(program, saying, [other]), told.follows(saying, [other]), (saying, other))

    def test_each_saying_from_several(self):
        chance = random.Random(14)
        for program in (TWO, THREE, FOUR):
            told = Told(program)
            for _ in range(300):
                values = chance.choice(every(program))
                some = [saying for saying in sayings(program) if is_so(saying, values)]
                saying = chance.choice(some)
                others = [chance.choice(some) for _ in range(chance.randrange(6))]
                self.answers(told.follows(saying, others), follows, program, saying, others)


class Thinned(Case):
    def thins(self, program, some, left):
        with self.subTest(some=some):
            self.answers(of(program, *left), thinned, program, of(program, *some))

    def test_none_and_one(self):
        self.thins(ONE, [], [])
        self.thins(ONE, ["a = 3"], ["a = 3"])
        self.thins(ONE_NUMBER, ["a = 5"], [])
        self.thins(FOUR, ["a < c"], [])
        self.thins(TWO, ["a + b = 8"], ["a + b = 8"])

    def test_told_more_than_once(self):
        self.thins(ONE, ["a = 3", "a = 3"], ["a = 3"])
        self.thins(ONE, ["a = 3", "a = 3", "a = 3"], ["a = 3"])
        self.thins(ONE, ["a >= 3", "a not 4", "a >= 3", "a not 4"], ["a >= 3", "a not 4"])
        self.thins(ONE, ["a not 4", "a >= 3", "a >= 3", "a not 4"], ["a not 4", "a >= 3"])
        self.thins(ONE, ["a >= 3", "a = 3", "a >= 3"], ["a = 3"])
        self.thins(ONE_NUMBER, ["a = 5", "a = 5"], [])

    def test_from_the_last_to_the_first(self):
        self.thins(ONE, ["a = 3", "a >= 3", "a <= 3"], ["a = 3"])
        self.thins(ONE, ["a >= 3", "a = 3", "a <= 3"], ["a = 3"])
        self.thins(ONE, ["a >= 3", "a <= 3", "a = 3"], ["a >= 3", "a <= 3"])
        self.thins(ONE, ["a <= 3", "a >= 3", "a = 3"], ["a <= 3", "a >= 3"])
        self.thins(ONE, ["a <= 3", "a = 3", "a >= 3"], ["a = 3"])
        self.thins(TWO, ["a = b", "a <= b", "b <= a"], ["a = b"])
        self.thins(TWO, ["b <= a", "a <= b", "a = b"], ["b <= a", "a <= b"])

    def test_what_was_left_out_is_no_reason(self):
        # Each of these follows from the other one: the last goes, and so the first stays.
        self.thins(ONE, ["a <= -2", "a = -2"], ["a <= -2"])
        self.thins(ONE, ["a = -2", "a <= -2"], ["a = -2"])
        self.thins(ONE, ["a >= 5", "a = 5", "a rest 6 = 5"], ["a >= 5"])
        self.thins(TWO, ["a = 1", "b = 1", "a = b"], ["a = 1", "b = 1"])
        self.thins(TWO, ["a = b", "a = 1", "b = 1"], ["a = b", "a = 1"])
        self.thins(TWO, ["a = b", "b = 1", "a = 1"], ["a = b", "b = 1"])

    def test_what_is_so_of_no_values_together(self):
        self.thins(ONE, ["a = 1", "a = 2"], ["a = 1", "a = 2"])
        self.thins(ONE, ["a = 1", "a = 2", "a = 3"], ["a = 1", "a = 2"])
        self.thins(ONE, ["a >= 3", "a = 1", "a = 2"], ["a >= 3", "a = 1"])
        self.thins(TWO, ["a + b = 8", "a = 1", "b = 2"], ["a + b = 8"])
        self.thins(TWO, ["a = 1", "b = 2", "a + b = 8"], ["a + b = 8"])
        self.thins(ONE_NUMBER, ["a not 5", "a rest 2 = 0"], ["a not 5"])

    def test_what_is_left_is_told_in_the_lists_order(self):
        self.thins(ONE, ["a not 4", "a not 1", "a <= 4", "a >= 1"], ["a not 4", "a not 1", "a <= 4", "a >= 1"])
        self.thins(ONE, ["a <= 4", "a not 5", "a >= 1", "a not 2", "a not -2"], ["a <= 4", "a >= 1", "a not 2"])
        self.thins(THREE, ["b = 2", "c = 3", "a = 1", "a + b = c"], ["b = 2", "c = 3", "a = 1"])
        self.thins(THREE, ["a + b = c", "c = 3", "b = 2", "a = 1"], ["a + b = c", "c = 3", "b = 2"])

    def test_four_boxes(self):
        self.thins(FOUR, ["d = 1", "c = 4", "a = d", "a < c", "a = 1", "b <= d", "b = 1", "a + b = 2"],
                   ["d = 1", "a = d", "b = 1"])
        self.thins(FOUR, ["a + b = d", "a = 1", "b = 1", "d = 2"], ["a + b = d", "a = 1", "b = 1"])

    def test_all_sayings(self):
        for program in (ONE, ONE_NUMBER, TWO):
            told = Told(program)
            self.answers(told.thinned(sayings(program)), thinned, program, sayings(program))

    def test_lists_of_any_kind(self):
        chance = random.Random(15)
        for program in (ONE, TWO, THREE, FOUR):
            told = Told(program)
            for _ in range(60):
                some = sayings(program)
                if chance.random() < 0.8:
                    values = chance.choice(every(program))
                    some = [saying for saying in some if is_so(saying, values)]
                some = [chance.choice(some) for _ in range(chance.randrange(12))]
                self.answers(told.thinned(some), thinned, program, some)

    def check_promise(self, program, some):
        # Point 3: what is left out follows from what is left, and nothing that is left from the rest.
        left = thinned(program, some)
        for saying in some:
            self.assertIs(follows(program, saying, left), True, saying)
        for place, saying in enumerate(left):
            self.assertIs(follows(program, saying, left[:place] + left[place + 1:]), False, saying)

    def test_what_held_thinned(self):
        program = read(rows("box a 0 19 0", "box b -10 9 0", "mark m", "ask a", "put b a-10", "mark n", "go m"))
        for runs in ([[3]], [[3, 7]], [[0, 5, 10, 15]], [list(range(20))], [[19], [0]]):
            for mark in ("m", "n"):
                some = held(program, runs, mark)
                self.assertGreater(len(some), 0)
                self.check_promise(program, some)
        told = Told(program)
        some = held(program, [list(range(20))], "n")
        self.answers(told.thinned(some), thinned, program, some)
        self.answers(of(program, "a - b = 10"), thinned, program, some)

    def test_long_lists(self):
        self.check_promise(WIDE, sayings(WIDE) * 2)
        self.answers(of(WIDE, "a = 0", "a = 1"), thinned, WIDE, sayings(WIDE))
        nevers = [saying for saying in sayings(WIDE) if saying[0] == "never"]
        self.answers(nevers[:20], thinned, WIDE, nevers)
        some = [saying for saying in sayings(WIDE) if is_so(saying, (7, -7))]
        self.answers(Told(WIDE).thinned(some), thinned, WIDE, some)

    def test_the_told_list_is_the_askers_own(self):
        self.own(thinned, ONE, [])
        self.own(thinned, ONE, of(ONE, "a = 3", "a >= 3"))
        self.own(thinned, TWO, of(TWO, "a = 1", "b = 1", "a not 4"))
        some = of(ONE, "a >= 3", "a not 4")
        told = thinned(ONE, some)
        some.clear()
        self.just(told, of(ONE, "a >= 3", "a not 4"))


class Reasons(Case):
    def has(self, program, saying, others, told):
        with self.subTest(saying=saying, others=others):
            expected = None if told is None else of(program, *told)
            self.answers(expected, reason, program, read_saying(program, saying), of(program, *others))

    def test_what_is_so_of_all_values(self):
        self.has(ONE_NUMBER, "a = 5", [], [])
        self.has(ONE_NUMBER, "a = 5", ["a = 5", "a rest 2 = 1"], [])
        self.has(FOUR, "a < c", ["a = 0", "c = 4"], [])
        self.has(FOUR, "d <= c", ["d = 1"], [])

    def test_none(self):
        self.has(ONE, "a = 3", [], None)
        self.has(ONE, "a = 3", ["a >= 3"], None)
        self.has(ONE, "a = 3", ["a >= 3", "a not 4", "a not 2", "a >= 2"], None)
        self.has(TWO, "a < b", ["a <= b", "a <= b", "a <= b", "a not 4"], None)

    def test_one(self):
        self.has(ONE, "a = 3", ["a = 3"], ["a = 3"])
        self.has(ONE, "a >= 3", ["a not 1", "a >= 2", "a >= 4", "a = 3"], ["a >= 4"])
        self.has(ONE, "a >= 3", ["a not 1", "a = 3", "a >= 4"], ["a = 3"])
        self.has(TWO, "a <= b", ["a not 4", "b not 1", "a < b", "a = b"], ["a < b"])
        self.has(TWO, "a <= b", ["a not 4", "b not 1", "a = b", "a < b"], ["a = b"])

    def test_one_of_which_no_values_are_so(self):
        self.has(TWO, "a = 1", ["a >= 1", "a <= 1", "a + b = 8"], ["a + b = 8"])
        self.has(TWO, "a = 1", ["a >= 1", "a - b = 20", "a = 1"], ["a - b = 20"])

    def test_two(self):
        self.has(ONE, "a = 3", ["a >= 3", "a <= 3"], ["a >= 3", "a <= 3"])
        self.has(ONE, "a = 3", ["a <= 3", "a >= 3"], ["a <= 3", "a >= 3"])
        self.has(ONE, "a = 3", ["a <= 4", "a >= 3", "a not 4", "a <= 3"], ["a >= 3", "a <= 3"])
        self.has(TWO, "a = b", ["a not 0", "b <= a", "a <= b"], ["b <= a", "a <= b"])
        self.has(THREE, "a = 0", ["b = c", "a + b = c", "b >= 1", "c >= 1"], ["b = c", "a + b = c"])
        self.has(FOUR, "a = d", ["b = 1", "d = 1", "a = 0", "a = 1"], ["d = 1", "a = 1"])

    def test_two_of_which_no_values_are_so(self):
        self.has(TWO, "b = 3", ["b >= 1", "a = 1", "b not 2", "a = 2", "b not 1"], ["a = 1", "a = 2"])

    def test_three(self):
        self.has(THREE, "c = 3", ["a = 1", "b = 2", "a + b = c"], ["a = 1", "b = 2", "a + b = c"])
        self.has(THREE, "c = 3", ["a + b = c", "b = 2", "a not 0", "a = 1"], ["a + b = c", "b = 2", "a = 1"])
        self.has(ONE, "a >= 1", ["a not -2", "a not -1", "a not 0"], ["a not -2", "a not -1", "a not 0"])
        self.has(ONE, "a >= 1", ["a not 3", "a not 0", "a not -2", "a not 5", "a not -1"],
                 ["a not 0", "a not -2", "a not -1"])

    def test_four_would_be_needed(self):
        self.has(ONE, "a >= 2", ["a not -2", "a not -1", "a not 0", "a not 1"], None)
        self.has(ONE, "a >= 2", ["a not -2", "a not -1", "a not 0", "a not 1", "a >= -1"], None)
        self.has(ONE, "a >= 2", ["a not -2", "a not -1", "a not 0", "a not 1", "a >= 0"],
                 ["a not 0", "a not 1", "a >= 0"])
        self.has(FOUR, "a + b = d", ["a = 1", "b = 1", "d >= 1", "d not 1"], None)
        self.has(FOUR, "a + b = d", ["a = 1", "b = 1", "d >= 1", "d not 1", "d = 2"], ["a = 1", "b = 1", "d = 2"])

    def test_the_first_by_places(self):
        self.has(ONE, "a = 3", ["a >= 3", "a >= 2", "a <= 3", "a not 2", "a rest 5 = 3", "a not -2"],
                 ["a >= 3", "a <= 3"])
        self.has(ONE, "a = 3", ["a in 2 3", "a in 3 4", "a in 3 5"], ["a in 2 3", "a in 3 4"])
        self.has(ONE, "a = 3", ["a in 3 5", "a in 2 3", "a in 3 4"], ["a in 3 5", "a in 2 3"])
        self.has(ONE, "a = 3", ["a not 1", "a >= 3", "a in 2 3", "a <= 3", "a in 3 4"], ["a >= 3", "a in 2 3"])
        self.has(ONE, "a = 3", ["a in 2 3", "a not 1", "a >= 3", "a <= 3"], ["a in 2 3", "a >= 3"])
        self.has(ONE, "a >= 1", ["a not 0", "a not 2", "a not -1", "a not -2", "a rest 4 = 2", "a not 0"],
                 ["a not -2", "a rest 4 = 2"])
        self.has(ONE, "a >= 1", ["a not 0", "a not -1", "a not 3", "a not -2", "a not -1", "a not 0"],
                 ["a not 0", "a not -1", "a not -2"])

    def test_fewer_come_ahead_of_places(self):
        self.has(ONE, "a = 3", ["a >= 3", "a <= 3", "a = 3"], ["a = 3"])
        self.has(ONE, "a >= 1", ["a not -2", "a not -1", "a not 0", "a not 5", "a >= 0"], ["a not 0", "a >= 0"])

    def test_told_more_than_once(self):
        self.has(ONE, "a >= 3", ["a = 3", "a = 3"], ["a = 3"])
        self.has(ONE, "a = 3", ["a >= 3", "a >= 3", "a <= 3", "a <= 3", "a >= 3"], ["a >= 3", "a <= 3"])
        self.has(ONE, "a = 3", ["a <= 4", "a <= 4", "a >= 3", "a not 4", "a <= 4", "a not 4"],
                 ["a <= 4", "a >= 3", "a not 4"])
        self.has(ONE, "a = 3", ["a not 4", "a not 4", "a >= 3", "a not 4", "a <= 4"], ["a not 4", "a >= 3", "a <= 4"])

    def test_sayings_that_cut_out_the_same_values(self):
        # Unlike sayings may leave the same of the values where it isn't so: the one that is told ahead counts.
        self.has(ONE, "a = 3", ["a in 3 4", "a not 5", "a in 3 5"], ["a in 3 4", "a in 3 5"])
        self.has(ONE, "a = 5", ["a >= 4", "a in 4 5", "a not 4"], ["a >= 4", "a not 4"])
        self.has(ONE, "a = 5", ["a in 4 5", "a >= 4", "a not 4"], ["a in 4 5", "a not 4"])

    def test_each_saying_by_each_pair(self):
        program = read("box a 0 3 0")
        told = Told(program)
        for saying in sayings(program):
            for others in itertools.permutations(sayings(program)[::3], 2):
                self.answers(told.reason(saying, others), reason, program, saying, list(others))

    def test_lists_of_any_kind(self):
        chance = random.Random(16)
        counts = []
        for program in (ONE, TWO, THREE, FOUR):
            told = Told(program)
            for _ in range(120):
                values = chance.choice(every(program))
                some = [saying for saying in sayings(program) if is_so(saying, values)]
                weak = [saying for saying in some if saying[0] in ("from", "to", "never", "most", "below", "rest")]
                saying = chance.choice(some)
                others = [chance.choice(weak) for _ in range(chance.randrange(10))]
                self.answers(told.reason(saying, others), reason, program, saying, others)
                counts.append(len(reason(program, saying, others) or "none"))
        self.assertEqual(sorted(set(counts)), [1, 2, 3, 4])

    def test_long_lists(self):
        some = [saying for saying in sayings(WIDE) if is_so(saying, (7, -7))]
        told = Told(WIDE)
        for saying in some[::9]:
            others = [other for other in some if other[:2] != saying[:2]]
            self.answers(told.reason(saying, others), reason, WIDE, saying, others)
        weak = [saying for saying in sayings(WIDE) if saying[0] == "never"]
        self.answers(None, reason, WIDE, ("is", 0, 7), [saying for saying in weak if is_so(saying, (7, -7))])
        self.answers([("is", 0, 0), ("is", 0, 1)], reason, WIDE, ("is", 1, 7),
                     [saying for saying in sayings(WIDE) if saying[:2] == ("is", 0)])

    def test_the_told_list_is_the_askers_own(self):
        self.own(reason, ONE_NUMBER, ("is", 0, 5), [])
        self.own(reason, ONE, ("is", 0, 3), of(ONE, "a = 3"))
        self.own(reason, ONE, ("is", 0, 3), of(ONE, "a >= 3", "a <= 3"))


if __name__ == "__main__":
    unittest.main()
