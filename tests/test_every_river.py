"""Points 2 to 6, 9 and 10 on every small river, against all paths there are."""

import functools
import itertools
import unittest

from lines import begin, do, fewest, go, left, mend, most, narrowest, on, plan, seen, told


def is_path(path, far, leap):
    stands = (0,) + tuple(path) + (far,)
    return all(0 < behind - ahead <= leap for ahead, behind in zip(stands, stands[1:]))


def all_paths(places, leap):
    choices = itertools.chain.from_iterable(
        itertools.combinations(range(1, places + 1), steps) for steps in range(places + 1)
    )
    return [path for path in choices if is_path(path, places + 1, leap)]


def stepped(bears, path):
    return tuple(borne - (place in path) for place, borne in enumerate(bears, start=1))


@functools.lru_cache(maxsize=None)
def how_many(bears, leap):
    """The most people that can get over, by trying each path for the next one."""
    best = 0
    for path in all_paths(len(bears), leap):
        left = stepped(bears, path)
        if min(left) >= 0:
            best = max(best, 1 + how_many(left, leap))
    return best


def dealt(bears, leap, people):
    row = []
    for place, borne in enumerate(bears, start=1):
        row += [place] * min(borne, people)
    paths = []
    for person in range(people):
        own = row[person::people]
        near = [at for at in [0] + own if len(bears) + 1 - at <= leap]
        paths.append([place for place in own if place <= near[0]])
    return paths


def paths_of(answer, people):
    paths = []
    at = 0
    for person in range(people):
        paths.append(answer[at + 1:at + 1 + answer[at]])
        at += 1 + answer[at]
    if at != len(answer):
        raise ValueError("a plan tells more than its paths")
    return paths


def rivers():
    for places, highest in ((1, 5), (2, 4), (3, 2), (4, 2), (5, 1)):
        for bears in itertools.product(range(highest + 1), repeat=places):
            yield bears


def fewest_laid(bears, leap):
    """For each number of people the fewest steps with which so many can get over, by trying each way to lay them."""
    needed = {}
    for mended in itertools.product(*(range(borne, 6) for borne in bears)):
        many = how_many(mended, leap)
        needed[many] = min(needed.get(many, 5 * len(bears)), sum(mended) - sum(bears))
    return {
        people: min(steps for many, steps in needed.items() if many >= people)
        for people in range(1, max(needed) + 1)
    }


class EveryRiver(unittest.TestCase):
    def test_most_and_narrowest(self):
        for bears in rivers():
            for leap in range(1, len(bears) + 1):
                many = how_many(bears, leap)
                self.assertEqual(on(bears, most(leap)), [many], (bears, leap))
                borne, place = on(bears, narrowest(leap))
                self.assertEqual((borne, sum(bears[place - 1:place - 1 + leap])), (many, many))
                for lower in range(1, place):
                    self.assertGreater(sum(bears[lower - 1:lower - 1 + leap]), many)

    def test_fewest(self):
        for bears in rivers():
            for leap in range(1, len(bears) + 3):
                open_paths = [p for p in all_paths(len(bears), leap) if min(stepped(bears, p)) >= 0]
                if not open_paths:
                    self.assertEqual(on(bears, fewest(leap)), [-6])
                    continue
                steps = min(len(path) for path in open_paths)
                # Going as far as can be with each step gives the highest places of all so short.
                farthest = max(path for path in open_paths if len(path) == steps)
                self.assertEqual(on(bears, fewest(leap)), [steps] + list(farthest), (bears, leap))

    def test_plan(self):
        for bears in rivers():
            for leap in range(1, len(bears) + 1):
                many = how_many(bears, leap)
                for people in range(1, many + 1):
                    paths = paths_of(on(bears, plan(leap, people)), people)
                    self.assertEqual(paths, dealt(bears, leap, people))
                    self.assertTrue(all(is_path(path, len(bears) + 1, leap) for path in paths))
                    taken = [sum(path.count(place) for path in paths) for place in range(1, len(bears) + 1)]
                    self.assertTrue(all(used <= borne for used, borne in zip(taken, bears)))
                self.assertEqual(on(bears, plan(leap, many + 1)), [-6])

    def test_go(self):
        for bears in rivers():
            if len(bears) > 3:
                continue
            for leap in range(1, len(bears) + 2):
                for path in all_paths(len(bears), len(bears) + 1):
                    left = stepped(bears, path)
                    answer = told(begin(bears), go(leap, path))[1]
                    if is_path(path, len(bears) + 1, leap) and min(left) >= 0:
                        self.assertEqual(answer, [len(path)])
                        self.assertEqual(seen(begin(bears), go(leap, path)), seen(begin(left)))
                    else:
                        self.assertIn(answer[0], (-6, -7))
                        self.assertEqual(len(answer), 2)

    def test_mend_and_do(self):
        small = [bears for places in (1, 2, 3) for bears in itertools.product((0, 1, 3, 5), repeat=places)]
        for bears in small + list(itertools.product((0, 2, 5), repeat=4)):
            for leap in range(1, len(bears) + 1):
                needed = fewest_laid(bears, leap)
                for people in range(1, 21):
                    answer = on(bears, mend(leap, people))
                    if people not in needed:
                        self.assertEqual(answer, [-6], (bears, leap, people))
                        self.assertEqual(on(bears, do(leap, people)), [-6])
                        continue
                    self.assertEqual(answer[0], needed[people], (bears, leap, people))
                    self.assertEqual(sum(answer[1:]), needed[people])
                    self.assertEqual(on(bears, do(leap, people)), [needed[people]])
                    self.assertGreaterEqual(how_many(tuple(left(begin(bears), do(leap, people))), leap), people)


if __name__ == "__main__":
    unittest.main()
