"""Plain walks of programs by their texts, apart from the package, for what it tells to be held against."""

import functools
import heapq
import itertools


@functools.lru_cache(None)
def compiled(text):
    return compile(text, text, "eval")


def is_so(text, named):
    # A saying by its written form, boxes by a dict of their names and numbers.
    words = text.split(" ")
    if words[1] == "rest":
        return (named[words[0]] - int(words[4])) % int(words[2]) == 0
    if words[1] == "in":
        return named[words[0]] in (int(words[2]), int(words[3]))
    if words[1] == "not":
        return named[words[0]] != int(words[2])
    return eval(compiled(text.replace(" = ", " == ")), {}, named)


class Plain:
    def __init__(self, text, written):
        # written: of each saying its text.
        lines = [line.split(" ") for line in text.split("\n")]
        self.boxes = [(line[1], int(line[2]), int(line[3]), int(line[4])) for line in lines if line[0] == "box"]
        self.names = [box[0] for box in self.boxes]
        self.rows = lines[len(self.boxes):]
        self.marks = [row[1] for row in self.rows if row[0] == "mark"]
        self.every = list(itertools.product(*[range(low, high + 1) for _, low, high, _ in self.boxes]))
        self.start = (0, tuple(box[3] for box in self.boxes))
        self.so = {}
        for saying, shown in written.items():
            self.so[saying] = {values for values in self.every if is_so(shown, dict(zip(self.names, values)))}
        self.next = {(mark, values): self.met(self.behind((self.rows.index(["mark", mark]), values)))
                     for mark in self.marks for values in self.every}
        self.first = self.met([(None, self.start)])
        self.ways = self.all_ways()

    def worth(self, e, values):
        return eval(compiled(e), {}, dict(zip(self.names, values)))

    def with_number(self, row, values, name, number):
        place = self.names.index(name)
        if not self.boxes[place][1] <= number <= self.boxes[place][2]:
            return []
        return [(row + 1, values[:place] + (number,) + values[place + 1:])]

    def behind(self, standing):
        # What a run may come to by one step: tuples (the number asked for or None, standing).
        row, values = standing
        words = self.rows[row] if row < len(self.rows) else ["stop"]
        if words[0] == "stop":
            return []
        if words[0] == "ask":
            low, high = self.boxes[self.names.index(words[1])][1:3]
            return [(n, after) for n in range(low - 1, high + 2) for after in self.with_number(row, values, words[1], n)]
        if words[0] == "put":
            return [(None, after) for after in self.with_number(row, values, words[1], self.worth(words[2], values))]
        if words[0] == "go":
            return [(None, (self.rows.index(["mark", words[1]]), values))]
        if words[0] == "if":
            left, right = self.worth(words[1], values), self.worth(words[3], values)
            if (left < right) if words[2] == "<" else (left == right):
                return [(None, (self.rows.index(["mark", words[5]]), values))]
        return [(None, (row + 1, values))]

    def mark_at(self, standing):
        row, values = standing
        if row < len(self.rows) and self.rows[row][0] == "mark":
            return (self.rows[row][1], values)
        return None

    def met(self, begun):
        met = set()
        stood = set()
        waiting = [standing for _, standing in begun]
        while waiting:
            standing = waiting.pop()
            if self.mark_at(standing):
                met.add(self.mark_at(standing))
            elif standing not in stood:
                stood.add(standing)
                waiting += [after for _, after in self.behind(standing)]
        return met

    def all_ways(self):
        # Of each (mark, values) that some run passes the shortest input, the first by its numbers.
        told = {}
        stood = set()
        waiting = [(0, (), self.start)]
        while waiting:
            count, numbers, standing = heapq.heappop(waiting)
            if standing in stood:
                continue
            stood.add(standing)
            if self.mark_at(standing):
                told[self.mark_at(standing)] = list(numbers)
            for number, after in self.behind(standing):
                more = numbers if number is None else numbers + (number,)
                heapq.heappush(waiting, (len(more), more, after))
        return told

    def passed(self, numbers):
        # What a run passes, up to where it ends or goes round.
        passed = []
        stood = set()
        left = list(numbers)
        standing = self.start
        while standing not in stood:
            stood.add(standing)
            if self.mark_at(standing):
                passed.append(self.mark_at(standing))
            after = self.behind(standing)
            if after and after[0][0] is not None:
                if not left:
                    break
                number = left.pop(0)
                after = [each for each in after if each[0] == number]
                stood = set()
            if not after:
                break
            standing = after[0][1]
        return passed

    def held(self, runs):
        # Of each mark the sayings that held, or None.
        passed = [each for numbers in runs for each in self.passed(numbers)]
        return {mark: self.so_of_all([values for name, values in passed if name == mark]) for mark in self.marks}

    def so_of_all(self, some):
        return [saying for saying, so in self.so.items() if so.issuperset(some)] if some else None

    def let_by(self, some):
        return set(self.every).intersection(*[self.so[saying] for saying in some])

    def come_to(self, paper):
        return self.first.union(*[self.next[(mark, values)] for mark, some in paper for values in self.let_by(some)])

    def unbroken(self, paper):
        come = self.come_to(paper)
        return [(mark, [saying for saying in some
                        if all(values in self.so[saying] for name, values in come if name == mark)])
                for mark, some in paper]

    def is_right(self, paper):
        return self.unbroken(paper) == paper

    def greatest(self, paper):
        while not self.is_right(paper):
            paper = self.unbroken(paper)
        return paper

    def breaking(self, mark, saying):
        inputs = [numbers for (name, values), numbers in self.ways.items()
                  if name == mark and values not in self.so[saying]]
        return min(inputs, key=lambda numbers: (len(numbers), numbers), default=None)

    def passing(self, mark):
        inputs = [numbers for (name, _), numbers in self.ways.items() if name == mark]
        return min(inputs, key=lambda numbers: (len(numbers), numbers), default=None)

    def judged(self, runs):
        held = self.held(runs)
        everything = list(self.so)
        shown = dict(self.greatest([(mark, everything if held[mark] is None else held[mark]) for mark in self.marks]))
        return [(mark, saying, self.verdict(mark, saying, shown[mark]))
                for mark in self.marks for saying in held[mark] or []]

    def verdict(self, mark, saying, shown):
        if saying in shown:
            return "shown"
        numbers = self.breaking(mark, saying)
        return "open" if numbers is None else ("broken", numbers)

    def first_broken(self, runs):
        held = self.held(runs)
        for mark in self.marks:
            for saying in held[mark] or []:
                if self.breaking(mark, saying) is not None:
                    return self.breaking(mark, saying)
        return None

    def settled(self, runs):
        runs = [list(numbers) for numbers in runs]
        for mark in self.marks:
            if self.held(runs)[mark] is None and self.passing(mark) is not None:
                runs.append(self.passing(mark))
        while self.first_broken(runs) is not None:
            runs.append(self.first_broken(runs))
        return runs

    def so_in_every_run(self, mark):
        return self.so_of_all([values for name, values in self.ways if name == mark])
