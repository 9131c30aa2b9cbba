"""Point 7: cross."""

import itertools
import unittest

from lines import begin, cross, left, look, looked, most, on, plan, told

ORDINARY = [1, 2, 0, 3, 1]


def paths_of(answer, people):
    paths = []
    at = 0
    for person in range(people):
        paths.append(answer[at + 1:at + 1 + answer[at]])
        at += 1 + answer[at]
    return paths


def without(bears, paths):
    return [borne - sum(path.count(place) for path in paths) for place, borne in enumerate(bears, start=1)]


class Taken(unittest.TestCase):
    def test_how_many_steps(self):
        self.assertEqual(on(ORDINARY, cross(2, 1)), [3])
        self.assertEqual(on(ORDINARY, cross(2, 2)), [5])
        self.assertEqual(on(ORDINARY, cross(3, 3)), [6])

    def test_what_is_left(self):
        self.assertEqual(left(begin(ORDINARY), cross(2, 1)), [0, 1, 0, 2, 1])
        self.assertEqual(left(begin(ORDINARY), cross(2, 2)), [0, 0, 0, 1, 1])
        self.assertEqual(left(begin(ORDINARY), cross(3, 3)), [0, 0, 0, 0, 1])

    def test_one_place(self):
        self.assertEqual(told(begin([5]), cross(1, 5), look()), [[0], [5], [5, 5, 0, 1, 0]])
        self.assertEqual(told(begin([1]), cross(1, 1), cross(1, 1), most(1)), [[0], [1], [-6], [0]])

    def test_eleven_places(self):
        self.assertEqual(told(begin([1] * 11), cross(1, 1), look()), [[0], [11], [1, 11, 0, 11] + [0] * 11])
        self.assertEqual(told(begin([5] * 11), cross(4, 20), look()), [[0], [55], [20, 55, 0, 11] + [0] * 11])
        self.assertEqual(left(begin([5] * 11), cross(11, 20)), [0] * 4 + [5] * 7)

    def test_a_place_is_stepped_on_at_most_once_by_each(self):
        self.assertEqual(told(begin([5, 5]), cross(1, 2), look()), [[0], [4], [2, 4, 0, 2, 3, 3]])

    def test_places_that_are_dealt_but_not_stepped_on_keep_what_they_bear(self):
        self.assertEqual(told(begin([1, 1, 1]), cross(2, 1), look()), [[0], [2], [1, 2, 0, 3, 0, 0, 1]])

    def test_a_leap_to_the_far_bank_takes_no_steps(self):
        for leap in (6, 7, 12):
            self.assertEqual(told(begin(ORDINARY), cross(leap, 20), look()), [[0], [0], [20, 0, 0, 5] + ORDINARY])
        self.assertEqual(told(begin([0] * 11), cross(12, 1), look()), [[0], [0], [1, 0, 0, 11] + [0] * 11])

    def test_one_behind_another(self):
        calls = [begin([2, 1, 2]), cross(2, 1), cross(2, 1), look(), cross(2, 1), cross(3, 1), look()]
        wanted = [[0], [2], [2], [2, 4, 0, 3, 0, 0, 1], [-6], [1], [3, 5, 0, 3, 0, 0, 0]]
        self.assertEqual(told(*calls), wanted)

    def test_what_the_paths_of_the_plan_take_is_taken_off(self):
        rivers = list(itertools.product((0, 1, 3), repeat=5)) + [[5, 4, 0, 3, 2, 5, 0, 0, 5, 1, 4], [4] * 11]
        for bears in rivers:
            for leap, people in itertools.product((1, 2, 3, 4, 5, 6, 12), (1, 2, 3, 4, 7, 13, 20)):
                planned, steps, behind = told(begin(bears), plan(leap, people), cross(leap, people), look())[1:]
                if planned == [-6]:
                    self.assertEqual((steps, behind), ([-6], [0, 0, 0, len(bears)] + list(bears)))
                    continue
                paths = paths_of(planned, people)
                self.assertEqual(steps, [sum(len(path) for path in paths)])
                self.assertEqual(behind, [people] + steps + [0, len(bears)] + without(bears, paths))


class Refused(unittest.TestCase):
    def test_so_many_cannot(self):
        self.assertEqual(on(ORDINARY, cross(1, 1)), [-6])
        self.assertEqual(on(ORDINARY, cross(2, 3)), [-6])
        self.assertEqual(on([0], cross(1, 1)), [-6])
        self.assertEqual(on([5] * 11, cross(3, 15)), [55])
        self.assertEqual(on([5] * 11, cross(3, 16)), [-6])

    def test_a_leap_that_does_not_fit(self):
        for leap in (0, 13, 20):
            self.assertEqual(on([5] * 11, cross(leap, 1)), [-1])

    def test_people_that_do_not_fit(self):
        for people in (0, 21, 40):
            self.assertEqual(on([5] * 11, cross(5, people)), [-1])
            self.assertEqual(on([5] * 11, cross(12, people)), [-1])

    def test_1_counts_ahead_of_6(self):
        self.assertEqual(on([0], cross(0, 1)), [-1])
        self.assertEqual(on([0], cross(1, 0)), [-1])
        self.assertEqual(on([0], cross(1, 21)), [-1])

    def test_nothing_changes(self):
        for leap, people in ((1, 1), (2, 3), (0, 1), (13, 1), (2, 0), (2, 21)):
            self.assertEqual(looked(begin(ORDINARY), cross(leap, people)), [0, 0, 0, 5] + ORDINARY)
            self.assertEqual(
                looked(begin(ORDINARY), cross(2, 1), cross(leap, people)), [1, 3, 0, 5, 0, 1, 0, 2, 1]
            )


if __name__ == "__main__":
    unittest.main()
