"""Whole lines of 60 calls with all eleven calls in them, against a second telling of the document."""

import random
import unittest

from lines import (
    apart, begin, cross, do, fewest, go, lay, line_of, look, mend, most, narrowest, plan
)
from steppedover.river import answers


class Model:
    """The river as a dict of places, with every call followed word by word."""

    def __init__(self):
        self.borne = None
        self.counts = [0, 0, 0]

    def far(self):
        return len(self.borne) + 1

    def stretches(self, leap):
        return [range(first, first + leap) for first in range(1, self.far()) if first + leap <= self.far()]

    def many_can(self, leap, people):
        return all(sum(self.borne[place] for place in stretch) >= people for stretch in self.stretches(leap))

    def begin(self, *bears):
        if not 1 <= len(bears) <= 11 or any(borne > 5 for borne in bears):
            return [-1]
        self.borne = dict(enumerate(bears, start=1))
        self.counts = [0, 0, 0]
        return [0]

    def most(self, leap):
        return self.narrowest(leap)[:1]

    def narrowest(self, leap):
        found = [(sum(self.borne[place] for place in stretch), stretch[0]) for stretch in self.stretches(leap)]
        return list(min(found)) if found else [-8]

    def fewest(self, leap):
        path = [0]
        while path[-1] + leap < self.far():
            within = range(path[-1] + 1, path[-1] + leap + 1)
            stones = [place for place in within if self.borne[place] > 0]
            if not stones:
                return [-6]
            path.append(stones[-1])
        return [len(path) - 1] + path[1:]

    def paths(self, leap, people):
        row = [place for place in self.borne for step in range(min(self.borne[place], people))]
        paths = []
        for person in range(people):
            path = [0]
            for place in row[person::people]:
                if path[-1] < self.far() - leap:
                    path.append(place)
            paths.append(path[1:])
        return paths

    def plan(self, leap, people):
        if not self.many_can(leap, people):
            return [-6]
        return [number for path in self.paths(leap, people) for number in [len(path)] + path]

    def step(self, paths):
        for path in paths:
            self.counts[0] += 1
            for place in path:
                self.counts[1] += 1
                self.borne[place] -= 1
        return [sum(len(path) for path in paths)]

    def go(self, leap, *path):
        if sorted(set(path)) != list(path) or any(place not in self.borne for place in path):
            return [-1]
        for ahead, place in zip((0,) + path, path + (self.far(),)):
            if place > ahead + leap:
                return [-7, place]
            if place != self.far() and self.borne[place] == 0:
                return [-6, place]
        return self.step([path])

    def cross(self, leap, people):
        return self.step(self.paths(leap, people)) if self.many_can(leap, people) else [-6]

    def lay(self, place, steps):
        if place not in self.borne or steps == 0 or self.borne[place] + steps > 5:
            return [-1]
        self.borne[place] += steps
        self.counts[2] += steps
        return [self.borne[place]]

    def mend(self, leap, people):
        if self.stretches(leap) and people > 5 * leap:
            return [-6]
        then = dict(self.borne)
        for stretch in self.stretches(leap):
            while sum(then[place] for place in stretch) < people:
                then[max(place for place in stretch if then[place] < 5)] += 1
        laid = [then[place] - self.borne[place] for place in self.borne]
        return [sum(laid)] + laid

    def do(self, leap, people):
        steps, *laid = self.mend(leap, people)
        for place, more in enumerate(laid, start=1):
            self.borne[place] += more
            self.counts[2] += more
        return [steps]

    def look(self):
        return self.counts + [len(self.borne)] + list(self.borne.values())

    def answer(self, name, *numbers):
        if name != "begin" and self.borne is None:
            return [-9]
        if name not in ("begin", "lay", "look") and not 1 <= numbers[0] <= 12:
            return [-1]
        if name in ("plan", "cross", "mend", "do") and not 1 <= numbers[1] <= 20:
            return [-1]
        return getattr(self, name)(*numbers)


WRITTEN = {
    "begin": lambda *bears: begin(bears), "most": most, "narrowest": narrowest, "fewest": fewest, "plan": plan,
    "go": lambda leap, *path: go(leap, path), "cross": cross, "lay": lay, "mend": mend, "do": do, "look": look,
}


def some_leap(chance):
    return chance.choice([0, 1, 2, 2, 3, 3, 4, 5, 6, 7, 8, 11, 12, 13, 20])


def some_people(chance):
    return chance.choice([0, 1, 1, 2, 2, 3, 4, 5, 6, 8, 10, 13, 15, 16, 20, 21, 40])


def some_path(chance):
    path = chance.sample(range(1, 12), chance.randint(0, 8))
    if chance.random() < 0.9:
        path = sorted(path)
    return path + chance.choice([[], [], [], [0], [20]])


def some_bears(chance):
    places = chance.choice([0, 1, 2, 3, 4, 5, 6, 7, 8, 9, 10, 11, 11, 12, 14])
    highest = chance.choice([1, 2, 3, 5, 5, 5, 6, 9])
    return [chance.randint(0, highest) for place in range(places)]


def some_call(chance, name):
    if name == "begin":
        return some_bears(chance)
    if name == "go":
        return [some_leap(chance)] + some_path(chance)
    if name == "lay":
        return [chance.choice([0, 1, 2, 3, 4, 5, 6, 7, 8, 9, 10, 11, 12, 20]), chance.choice([0, 1, 1, 2, 3, 4, 5, 9])]
    if name in ("plan", "cross", "mend", "do"):
        return [some_leap(chance), some_people(chance)]
    return [] if name == "look" else [some_leap(chance)]


def some_line(chance):
    """A line of 60 calls, as names with their numbers: each of the eleven at least once, begin more seldom."""
    names = sorted(WRITTEN)
    others = [name for name in names if name != "begin"]
    line = names + [chance.choice(others if chance.random() < 0.98 else ["begin"]) for more in range(60 - len(names))]
    chance.shuffle(line)
    if chance.random() < 0.8:
        line[line.index("begin")] = line[0]
        line[0] = "begin"
    return [(name, some_call(chance, name)) for name in line]


def line_for(seed):
    return some_line(random.Random(seed))


def told_by_model(line):
    model = Model()
    return [model.answer(name, *numbers) for name, numbers in line]


def written(line):
    return line_of([WRITTEN[name](*numbers) for name, numbers in line])


class WholeLines(unittest.TestCase):
    def test_lines_of_60_calls(self):
        for seed in range(1500):
            line = line_for(seed)
            self.assertEqual((len(line), len({name for name, numbers in line})), (60, 11))
            self.assertEqual(apart(answers(written(line))), told_by_model(line), (seed, line))

    def test_the_lines_reach_every_answer(self):
        reached = {}
        for seed in range(1500):
            line = line_for(seed)
            for (name, numbers), answer in zip(line, told_by_model(line)):
                reached.setdefault(name, set()).add(min(answer[0], 0))
        wanted = {
            "begin": {0, -1}, "most": {0, -1, -8, -9}, "narrowest": {0, -1, -8, -9}, "fewest": {0, -1, -6, -9},
            "plan": {0, -1, -6, -9}, "go": {0, -1, -6, -7, -9}, "cross": {0, -1, -6, -9}, "lay": {0, -1, -9},
            "mend": {0, -1, -6, -9}, "do": {0, -1, -6, -9}, "look": {0, -9},
        }
        self.assertEqual(reached, wanted)

    def test_the_list_is_as_it_was_and_gives_the_same_answer_again(self):
        for seed in range(100):
            calls = written(line_for(seed))
            kept = list(calls)
            first = answers(calls)
            self.assertEqual(calls, kept)
            self.assertEqual(answers(calls), first)
            self.assertEqual(calls, kept)

    def test_below_0_are_refusals_alone(self):
        for seed in range(100):
            line = line_for(seed)
            for (name, numbers), answer in zip(line, apart(answers(written(line)))):
                self.assertTrue(all(number >= 0 for number in answer[1:]))
                if answer[0] < 0:
                    with_place = name == "go" and answer[0] in (-6, -7)
                    self.assertEqual(len(answer), 2 if with_place else 1)


if __name__ == "__main__":
    unittest.main()
